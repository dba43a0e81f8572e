"""Books of offers: names with their rules, in which each name that a rule has is that of an offer."""

from offerhouse.errors import BadName, NoOffer, NotOffered, Ring, TooMany, Twice
from offerhouse.forms import cost_at, first_unlike
from offerhouse.wording import is_name

MOST_OFFERS = 30


class Book:
    def __init__(self, offers):
        pairs = [(name, rule) for name, rule in offers]
        check_many(len(pairs))
        check_names([name for name, rule in pairs])
        # The functions look at the rules alone, so that what an asker does to the list changes nothing they tell.
        self.offers = pairs
        self.rules = dict(pairs)
        check_needs(self.rules)


def check_many(many):
    if many > MOST_OFFERS:
        raise TooMany("there are too many offers")


def check_names(names):
    for name in names:
        if not is_name(name):
            raise BadName(f"{name!r} is no name")
    if len(set(names)) < len(names):
        raise Twice("a name stands twice")


def check_needs(rules):
    for rule in rules.values():
        for name in rule.names():
            if name not in rules:
                raise NoOffer(f"no offer is called {name}")
    for name in rules:
        if name in reached_from(rules, name):
            raise Ring(f"the offer {name} names itself")


# The names that an offer has, straight or through others, as the keys of a dict; a ring ends where it began.
def reached_from(rules, name):
    reached = {}
    waiting = rules[name].names()
    while waiting:
        other = waiting.pop()
        if other not in reached:
            reached[other] = True
            waiting.extend(rules[other].names())
    return reached


def rule_of(book, name):
    if name not in book.rules:
        raise NoOffer(f"no offer is called {name}")
    return book.rules[name]


def order_of(book, name):
    order = []
    add_needed(book, name, order)
    return order


def add_needed(book, name, order):
    for other in rule_of(book, name).names():
        if other not in order:
            add_needed(book, other, order)
    order.append(name)


def form_of(book, name):
    return forms_for(book, [name])[name]


# A dict with the forms of these offers and of all that they need.
def forms_for(book, names):
    # A name that is not there is refused ahead of any form that is too long.
    orders = [order_of(book, name) for name in names]
    forms = {}
    for order in orders:
        for name in order:
            if name not in forms:
                forms[name] = rule_of(book, name).form(forms)
    return forms


def quote(book, name, x):
    cost = cost_at(form_of(book, name), x)
    if cost is None:
        raise NotOffered(f"{name} does not offer {x}")
    return cost


def unlike_at(book, other, name):
    # The second book is asked for the name ahead of the first one's form, which may be too long.
    rule_of(other, name)
    return first_unlike(form_of(book, name), form_of(other, name))
