"""Papers for shares: a unit price that shows them to be cheapest, or two amounts that bar every such price."""

from offerhouse.forms import cost_at
from offerhouse.gains import gain_at
from offerhouse.house import cost_of
from offerhouse.lines import down, up


def shows(form, x, p):
    return p * x - cost_of([form], [x]) == gain_at(form, p)


def prices_at(form, x):
    return shares_shown([form], [x])


def shares_shown(forms, shares):
    low = max(lows_of(forms, shares), default=None)
    high = min(highs_of(forms, shares), default=None)
    return (None if low is None else low[0], None if high is None else high[0])


# The bounds from below that amounts less than the shares set to the unit price: triples (bound, seller, amount).
def lows_of(forms, shares):
    found = []
    for k, form in enumerate(forms):
        x = shares[k]
        cost = cost_of([form], [x])
        found.extend([(up(cost - cost_at(form, y), x - y), k, y) for y in ends_below(form, x)])
    return found


# The bounds from above, of amounts greater than the shares, likewise.
def highs_of(forms, shares):
    found = []
    for j, form in enumerate(forms):
        x = shares[j]
        cost = cost_of([form], [x])
        found.extend([(down(cost_at(form, z) - cost, z - x), j, z) for z in ends_above(form, x)])
    return found


# Along a stretch the quotients only rise or only fall, so that the ends of what lies below x (or above) tell the bound.
def ends_below(form, x):
    ends = []
    for row in form:
        if row[0] < x:
            ends.extend([row[0], min(row[1], x - 1)])
    return ends


def ends_above(form, x):
    ends = []
    for row in form:
        if row[1] > x:
            ends.extend([max(row[0], x + 1), row[1]])
    return ends


def paper_for(forms, shares):
    low = max(lows_of(forms, shares), default=None)
    high = min(highs_of(forms, shares), default=None)
    if low is None:
        return ("price", 0 if high is None else high[0])
    if high is None or low[0] <= high[0]:
        return ("price", low[0])
    return ("bars", low[1], low[2], high[1], high[2])
