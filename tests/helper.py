"""What several tests share: costs looked at one by one, and numbers to try."""

import math
import random
from fractions import Fraction

from offerhouse import rules
from offerhouse.forms import laid


def costs_in(rows):
    """A dict from each amount that the stretches hold to its cost."""
    return {
        low + count: price + step * count
        for low, high, price, step in rows
        for count in range(high - low + 1)
    }


def form_from(costs):
    """The form of a dict of costs, built amount by amount as point 0.5 tells."""
    rows = []
    for x in sorted(costs):
        if rows and rows[-1][1] == x - 1:
            low, high, price, step = rows[-1]
            if low == high:
                rows[-1] = (low, x, price, costs[x] - price)
                continue
            if costs[high] + step == costs[x]:
                rows[-1] = (low, x, price, step)
                continue
        rows.append((x, x, costs[x], 0))
    return tuple(rows)


def small_forms(parts, choices):
    """The forms of all lists of so many parts, each one of the choices (None: not offered)."""
    lists = [[]]
    for _ in range(parts):
        lists = [costs + [choice] for costs in lists for choice in choices]
    return [
        form_from({x: cost for x, cost in enumerate(costs) if cost is not None})
        for costs in lists
    ]


def chance(seed):
    """A source of numbers that is the same in each run."""
    return random.Random(seed)


def far_number(source, figures):
    """A number of either sign with so many figures."""
    number = source.randrange(10 ** (figures - 1), 10 ** figures)
    return number if source.randrange(2) else -number


def cut_up(form, source, cuts):
    """Stretches that hold what the form holds, each of the form's cut in several; one amount alone has any step."""
    rows = []
    for low, high, price, step in form:
        places = {low}
        for _ in range(cuts):
            places.add(source.randrange(low, high + 1))
            places.add(min(high, low + source.randrange(4)))
            places.add(max(low, high - source.randrange(4)))
        lows = sorted(places)
        ends = [place - 1 for place in lows[1:]] + [high]
        for first, last in zip(lows, ends):
            own = step if first < last else source.randrange(-9, 10)
            rows.append((first, last, price + step * (first - low), own))
    return rows


def far_form(source, stretches):
    """A form with ends and costs of up to 50 figures; some stretches are neighbours, some hold one amount."""
    rows = []
    low = source.choice((far_number(source, 50), far_number(source, 30), 0))
    for _ in range(stretches):
        high = low + source.choice((0, 1, 2, 10 ** 30, source.randrange(10 ** 40)))
        price = far_number(source, source.randrange(1, 50))
        rows.append((low, high, price, far_number(source, source.randrange(1, 20))))
        low = high + source.choice((1, 1, 2, 10 ** 33, source.randrange(1, 10 ** 40)))
    return laid(rows)


def beside_ends(*forms):
    """The amounts at, beside and midway between the ends of all stretches of the forms."""
    ends = sorted({end for form in forms for row in form for end in row[:2]})
    near = {end + beside for end in ends for beside in (-2, -1, 0, 1, 2)}
    middles = {(end + behind) // 2 for end, behind in zip(ends, ends[1:])}
    return sorted(near | middles | {0})


def long_form(stretches, low=0):
    """A form of so many stretches of two amounts each, with a gap behind each."""
    return tuple((low + 3 * k, low + 3 * k + 1, k * k, k) for k in range(stretches))


def split_costs(*costs):
    """Dicts of costs joined: each sum of amounts, one of each dict, at the least cost of all the ways to it."""
    made = {0: 0}
    for here in costs:
        longer = {}
        for x, cost in made.items():
            for y, more in here.items():
                longer[x + y] = min(cost + more, longer.get(x + y, cost + more))
        made = longer
    return made


def far_split_cost(one, other, x):
    """What x costs in the split of two forms, None where not offered.

    Over one stretch of each, the cost of the first part y and of x - y together runs straight: an end is the least.
    """
    costs = []
    for low, high, price, step in one:
        for first, last, dear, slope in other:
            for y in (max(low, x - last), min(high, x - first)):
                if low <= y <= high and first <= x - y <= last:
                    costs.append(price + step * (y - low) + dear + slope * (x - y - first))
    return min(costs, default=None)


def far_gain(form, p):
    """The gain at p: along a stretch gains run straight, so that an end of one gains most."""
    return max(p * x - (price + step * (x - low)) for low, high, price, step in form for x in (low, high))


def far_hull_cost(form, x, low, high):
    """The greatest of p * x less the gain at p: by p it rises no more once it does not rise, so halving finds it."""
    while low < high:
        middle = (low + high) // 2
        if x - far_gain(form, middle + 1) + far_gain(form, middle) > 0:
            low = middle + 1
        else:
            high = middle
    return low * x - far_gain(form, low)


def are_spans(told):
    """Whether it is a tuple as point 0.6 tells."""
    right = type(told) is tuple and all(type(span) is tuple and len(span) == 2 and span[0] <= span[1] for span in told)
    return right and all(row[0] >= ahead[1] + 2 for ahead, row in zip(told, told[1:]))


def held_by(spans):
    """The list of the numbers that the spans hold."""
    return [x for low, high in spans for x in range(low, high + 1)]


def few_amounts(source):
    costs = {x + source.randrange(-2, 3): source.randrange(7) - x for x in range(4) if source.randrange(4)}
    return form_from(costs)


def sellers_of(source, most):
    """Up to so many forms of few amounts each, whose numbers of stretches come to a product of at most 100."""
    while True:
        forms = [few_amounts(source) for _ in range(source.randrange(most + 1))]
        many = 1
        for form in forms:
            many *= len(form)
        if many <= 100:
            return forms


def shown_at(costs, x, p):
    """Whether the unit price shows the amount, as point 8.1 tells."""
    return all(cost >= costs[x] + p * (y - x) for y, cost in costs.items())


def bars_bar(all_costs, shares, k, y, j, z):
    """Whether a paper of two bars holds, as point 8.2 tells."""
    sellers = range(len(all_costs))
    if k not in sellers or j not in sellers or y not in all_costs[k] or z not in all_costs[j]:
        return False
    if y >= shares[k] or z <= shares[j]:
        return False
    low = Fraction(all_costs[k][shares[k]] - all_costs[k][y], shares[k] - y)
    high = Fraction(all_costs[j][z] - all_costs[j][shares[j]], z - shares[j])
    return math.ceil(low) > math.floor(high)


def rule_of(spec):
    """The rule of a tuple: the name of its class, and what it is made with (tuples again for rules)."""
    made = [rule_of(part) if isinstance(part, tuple) else part for part in spec[1:]]
    return getattr(rules, spec[0])(*made)


def unit_of(rows, number):
    return [unit for top, unit in rows if top >= number][0]


def costs_of(spec, forms):
    """A dict from each amount that the rule of the tuple offers to its cost, as point 4.1 tells, one by one."""
    kind, *made = spec
    inner = [costs_of(part, forms) for part in made if isinstance(part, tuple)]
    if kind == "Each":
        return {x: made[0] * x for x in range(made[1], made[2] + 1)}
    if kind == "Flat":
        return {x: made[0] for x in range(made[1], made[2] + 1)}
    if kind == "Bands":
        return {x: x * unit_of(made[0], x) for x in range(made[0][-1][0] + 1)}
    if kind == "Steps":
        return {x: sum(unit_of(made[0], piece) for piece in range(1, x + 1)) for x in range(made[0][-1][0] + 1)}
    if kind == "Blocks":
        return {x: made[1] * len(range(0, x, made[0])) for x in range(made[0] * made[2] + 1)}
    if kind == "Named":
        return costs_in(forms[made[0]])
    return costs_over(kind, made, inner)


def costs_over(kind, made, inner):
    one = inner[0]
    if kind == "Sum":
        return {x: one[x] + inner[1][x] for x in one if x in inner[1]}
    if kind == "Cheaper":
        return {x: min(costs[x] for costs in inner if x in costs) for x in {*one, *inner[1]}}
    if kind == "Dearer":
        return {x: max(one[x], inner[1][x]) for x in one if x in inner[1]}
    if kind == "Only":
        return {x: one[x] for x in one if made[1] <= x <= made[2]}
    if kind == "After":
        behind = max(0, max(one, default=0)) + made[1] + 1
        return {x: one[max(0, x - made[1])] for x in range(behind) if max(0, x - made[1]) in one}
    if kind == "Roomy":
        amounts = range(min(one), max(one) + 1) if one else ()
        return {x: min(one[y] for y in one if y >= x) for x in amounts}
    assert kind == "Fee"
    return {x: one[x] + (made[1] if x else 0) for x in one}


def words_of(spec):
    """What point 4.4 writes of the rule of the tuple."""
    kind, *made = spec
    made = [words_of(part) if isinstance(part, tuple) else part for part in made]
    if kind in ("Bands", "Steps"):
        return " ".join([kind.lower()] + [str(top) + ":" + str(unit) for top, unit in made[0]])
    pattern = {
        "Each": "each {} from {} to {}", "Flat": "flat {} from {} to {}", "Blocks": "blocks {} at {} times {}",
        "Named": "{}", "Sum": "( {} plus {} )", "Cheaper": "( {} or {} )", "Dearer": "( {} max {} )",
        "Only": "( {} only {} to {} )", "After": "( {} after {} )", "Roomy": "( {} roomy )", "Fee": "( {} fee {} )",
    }[kind]
    return pattern.format(*made)


def count_of(spec):
    """How many rules the rule of the tuple holds, and how many stand within one another."""
    inner = [count_of(part) for part in spec[1:] if isinstance(part, tuple)]
    return 1 + sum(many for many, deep in inner), 1 + max((deep for many, deep in inner), default=0)


def some_offers(source, many):
    """Offers of small rules, each of which may name those that come behind it."""
    names = source.sample(["a", "b", "c", "oak", "elm", "fir", "yew", "ash"], many)
    offers = []
    for place, name in enumerate(names):
        offers.append((name, some_rule(source, names[place + 1:], 3)))
    return offers


def some_rule(source, names, deep):
    kinds = ["Each", "Flat", "Bands", "Steps", "Blocks"] + ["Named"] * 4 * bool(names)
    if deep:
        kinds += ["Sum", "Cheaper", "Dearer", "Only", "After", "Roomy", "Fee"]
    kind = source.choice(kinds)
    low, high = sorted(source.randrange(9) for _ in range(2))
    unit = source.randrange(-4, 8)
    if kind in ("Each", "Flat"):
        return (kind, unit, low, high)
    if kind in ("Bands", "Steps"):
        tops = sorted(source.sample(range(12), source.randrange(1, 4)))
        return (kind, [(top, source.randrange(-4, 8)) for top in tops])
    if kind == "Blocks":
        return (kind, source.randrange(1, 4), unit, source.randrange(1, 4))
    if kind == "Named":
        return (kind, source.choice(names))
    one = some_rule(source, names, deep - 1)
    if kind in ("Sum", "Cheaper", "Dearer"):
        return (kind, one, some_rule(source, names, deep - 1))
    return (kind, one) + {"Only": (low, high), "After": (low,), "Roomy": (), "Fee": (unit,)}[kind]


def forms_of(offers):
    """The form of each of such offers, amount by amount."""
    forms = {}
    for name, spec in reversed(offers):
        forms[name] = form_from(costs_of(spec, forms))
    return forms


FAR_FORM = (
    (-10 ** 60, -10 ** 30, 7, -3),
    (-10 ** 30 + 1, 5, 10 ** 70, 10 ** 45),
    (7, 7, -10 ** 49, 0),
    (9, 10 ** 40, 0, 0),
    (10 ** 40 + 1, 10 ** 40 + 2, 1, -(10 ** 400 - 1)),
    (10 ** 40 + 3, 10 ** 400, 1, 2),
    (10 ** 401, 10 ** 401, 5, 0),
)
