"""Costs one by one: a form made of a list of them, and the costs that a form tells between two amounts."""

from offerhouse.forms import cost_at, drawn_to, laid
from offerhouse.lines import sum_on


def from_costs(first, costs):
    return laid([(first + place, first + place, cost, 0) for place, cost in enumerate(costs) if cost is not None])


def costs_between(form, low, high):
    return [cost_at(form, x) for x in range(low, high + 1)]


def sum_between(form, low, high):
    return sum([sum_in(row, max(low, row[0]), min(high, row[1])) for row in form])


def sum_in(row, first, last):
    # A stretch that lies ahead of the low or behind the high is left with no amount.
    if first > last:
        return 0
    return sum_on((drawn_to(row, first), row[3]), last - first + 1)
