"""Rules: how an offer tells what its amounts cost."""

from offerhouse.deeds import freed, plus, raised, within, without
from offerhouse.errors import NoOffer, TooMany
from offerhouse.forms import cost_at, laid
from offerhouse.least import at_least, greatest, least
from offerhouse.lines import up

MOST_STRETCHES = 60


# Each class of rules has these of its own besides: written; cost_here and form_here, which are asked when all names are
# known to be there (form_here with the forms of the parts, so that the bound is kept in one place).
class Rule:
    def cost(self, x, forms):
        look_up_names(self, forms)
        return self.cost_here(x, forms)

    def form(self, forms):
        look_up_names(self, forms)
        return self.form_up_to(MOST_STRETCHES, forms)

    # None for the most leaves it open: a cost is told however many stretches there are.
    def form_up_to(self, most, forms):
        made = self.form_here([part.form_up_to(most, forms) for part in self.parts()], forms)
        if most is not None and len(made) > most:
            raise TooMany("the form of a rule has too many stretches")
        return made

    def names(self):
        return sorted(set(self.all_names()))

    def all_names(self):
        found = []
        for part in self.parts():
            found.extend(part.all_names())
        return found

    def parts(self):
        return []


def look_up_names(rule, forms):
    # Ahead of all else: a missing name is refused even where the amount would not ask it.
    for name in rule.names():
        if name not in forms:
            raise NoOffer(f"no offer is called {name}")


def worded(words):
    return " ".join([str(word) for word in words])


class Each(Rule):
    def __init__(self, unit, low, high):
        self.unit = unit
        self.low = low
        self.high = high

    def cost_here(self, x, forms):
        return self.unit * x if self.low <= x <= self.high else None

    def form_here(self, held, forms):
        return laid([(self.low, self.high, self.unit * self.low, self.unit)])

    def written(self):
        return worded(["each", self.unit, "from", self.low, "to", self.high])


class Flat(Rule):
    def __init__(self, price, low, high):
        self.price = price
        self.low = low
        self.high = high

    def cost_here(self, x, forms):
        return self.price if self.low <= x <= self.high else None

    def form_here(self, held, forms):
        return laid([(self.low, self.high, self.price, 0)])

    def written(self):
        return worded(["flat", self.price, "from", self.low, "to", self.high])


# What Bands and Steps share.
class Rows(Rule):
    def __init__(self, rows):
        # The asker may go on changing the list.
        self.rows = [(top, unit) for top, unit in rows]

    def holds(self, x):
        return 0 <= x <= self.rows[-1][0]

    def written_rows(self):
        return worded([f"{top}:{unit}" for top, unit in self.rows])


class Bands(Rows):
    def cost_here(self, x, forms):
        if not self.holds(x):
            return None
        units = [unit for top, unit in self.rows if x <= top]
        return x * units[0]

    def form_here(self, held, forms):
        stretches = []
        low = 0
        for top, unit in self.rows:
            stretches.append((low, top, low * unit, unit))
            low = top + 1
        return laid(stretches)

    def written(self):
        return worded(["bands", self.written_rows()])


class Steps(Rows):
    def cost_here(self, x, forms):
        if not self.holds(x):
            return None
        cost = 0
        ahead = 0
        for top, unit in self.rows:
            cost += unit * max(0, min(x, top) - ahead)
            ahead = top
        return cost

    def form_here(self, held, forms):
        # The amount 0 has no piece; a first row that ends there has none either.
        stretches = [(0, 0, 0, 0)]
        ahead = 0
        cost = 0
        for top, unit in self.rows:
            if top > ahead:
                stretches.append((ahead + 1, top, cost + unit, unit))
            cost += unit * (top - ahead)
            ahead = top
        return laid(stretches)

    def written(self):
        return worded(["steps", self.written_rows()])


class Blocks(Rule):
    def __init__(self, size, price, many):
        self.size = size
        self.price = price
        self.many = many

    def cost_here(self, x, forms):
        return self.price * up(x, self.size) if 0 <= x <= self.size * self.many else None

    def form_here(self, held, forms):
        stretches = [(0, 0, 0, 0)]
        for begun in range(1, self.many + 1):
            last = self.size * begun
            stretches.append((last - self.size + 1, last, self.price * begun, 0))
        return laid(stretches)

    def written(self):
        return worded(["blocks", self.size, "at", self.price, "times", self.many])


class Named(Rule):
    def __init__(self, name):
        self.name = name

    def all_names(self):
        return [self.name]

    def cost_here(self, x, forms):
        return cost_at(forms[self.name], x)

    def form_here(self, held, forms):
        return forms[self.name]

    def written(self):
        return self.name


# What the rules over two rules share.
class Pair(Rule):
    def __init__(self, one, other):
        self.one = one
        self.other = other

    def parts(self):
        return [self.one, self.other]

    def offered_costs(self, x, forms):
        costs = [part.cost_here(x, forms) for part in self.parts()]
        return [cost for cost in costs if cost is not None]

    def written_between(self, word):
        return worded(["(", self.one.written(), word, self.other.written(), ")"])


class Sum(Pair):
    def cost_here(self, x, forms):
        costs = self.offered_costs(x, forms)
        return sum(costs) if len(costs) == 2 else None

    def form_here(self, held, forms):
        return plus(held[0], held[1])

    def written(self):
        return self.written_between("plus")


class Cheaper(Pair):
    def cost_here(self, x, forms):
        return min(self.offered_costs(x, forms), default=None)

    def form_here(self, held, forms):
        return least(held[0], held[1])

    def written(self):
        return self.written_between("or")


class Dearer(Pair):
    def cost_here(self, x, forms):
        costs = self.offered_costs(x, forms)
        return max(costs) if len(costs) == 2 else None

    def form_here(self, held, forms):
        return greatest(held[0], held[1])

    def written(self):
        return self.written_between("max")


# What the rules over one rule share.
class Single(Rule):
    def __init__(self, one):
        self.one = one

    def parts(self):
        return [self.one]

    def written_with(self, words):
        return worded(["(", self.one.written()] + words + [")"])


class Only(Single):
    def __init__(self, one, low, high):
        Single.__init__(self, one)
        self.low = low
        self.high = high

    def cost_here(self, x, forms):
        return self.one.cost_here(x, forms) if self.low <= x <= self.high else None

    def form_here(self, held, forms):
        return within(held[0], self.low, self.high)

    def written(self):
        return self.written_with(["only", self.low, "to", self.high])


class After(Single):
    def __init__(self, one, count):
        Single.__init__(self, one)
        self.count = count

    def cost_here(self, x, forms):
        return None if x < 0 else self.one.cost_here(max(0, x - self.count), forms)

    def form_here(self, held, forms):
        return freed(held[0], self.count)

    def written(self):
        return self.written_with(["after", self.count])


class Roomy(Single):
    def cost_here(self, x, forms):
        # One amount's cost hangs on all amounts behind it, so the whole form is needed.
        return cost_at(self.form_up_to(None, forms), x)

    def form_here(self, held, forms):
        return at_least(held[0])

    def written(self):
        return self.written_with(["roomy"])


class Fee(Single):
    def __init__(self, one, price):
        Single.__init__(self, one)
        self.price = price

    def cost_here(self, x, forms):
        cost = self.one.cost_here(x, forms)
        return cost if cost is None or x == 0 else cost + self.price

    def form_here(self, held, forms):
        # The two offer no amount in common: the lesser of them is both together.
        return least(within(held[0], 0, 0), raised(without(held[0], 0, 0), self.price))

    def written(self):
        return self.written_with(["fee", self.price])
