"""Many sellers: what they sell together, the shares that each of them sells, and what one of them spares."""

from offerhouse.deeds import cut, plus, times
from offerhouse.errors import NotOffered
from offerhouse.forms import cost_at, laid
from offerhouse.split import best_dealt, least_poured


def joined(forms):
    return least_poured(forms)


def cost_of(forms, shares):
    costs = [cost_at(form, share) for form, share in zip(forms, shares)]
    if None in costs:
        raise NotOffered("a seller does not offer its share")
    return sum(costs)


def shares_at(forms, x):
    return best_dealt(forms, x)


def spared(forms, k):
    together = joined(forms)
    # Nothing is spared then, however many stretches the others have.
    if together == ():
        return ()
    others = [form for place, form in enumerate(forms) if place != k]
    return plus(joined(others), times(together, -1))


def standing(forms, least_shares):
    return joined([from_on(form, low) for form, low in zip(forms, least_shares)])


def from_on(form, low):
    return laid([cut(row, max(low, row[0]), row[1]) for row in form if row[1] >= low])
