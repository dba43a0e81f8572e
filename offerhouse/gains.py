"""Gains: what amounts bring at a unit price, less what they cost."""

from offerhouse.deeds import times
from offerhouse.forms import drawn_to, laid, offered
from offerhouse.least import amounts_for, least_cost, least_of


def gain_at(form, p):
    return -least_cost(tilted(form, p))[0]


# Each amount at its cost less what it brings at the unit price: the gain is the least of these with its sign turned.
def tilted(form, p):
    return laid([(row[0], row[1], row[2] - p * row[0], row[3] - p) for row in form])


def gains(form, low, high):
    # Within a stretch the gain runs straight from amount to amount, so that none gains more than both ends.
    losses = []
    for row in offered(form):
        losses.append(loss_of(row[0], row[2], low, high))
        losses.append(loss_of(row[1], drawn_to(row, row[1]), low, high))
    return times(least_of(losses), -1)


# What an amount costs less what it brings, at each unit price from low to high.
def loss_of(x, cost, low, high):
    return laid([(low, high, cost - low * x, -x)])


def best_amounts(form, p):
    here = tilted(form, p)
    return amounts_for(here, least_cost(here)[0])
