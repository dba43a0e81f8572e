"""Whether a paper holds, and whether shares are cheapest."""

from offerhouse.forms import cost_at
from offerhouse.house import cost_of, joined
from offerhouse.lines import down, up
from offerhouse.papers import shows


def paper_holds(forms, shares, paper):
    # Shares that are not offered are refused whatever the paper says.
    cost_of(forms, shares)
    if paper[0] == "price":
        return all([shows(form, share, paper[1]) for form, share in zip(forms, shares)])
    return bars_hold(forms, shares, paper)


def bars_hold(forms, shares, paper):
    k = paper[1]
    j = paper[3]
    if not 0 <= k < len(forms) or not 0 <= j < len(forms):
        return False
    y = paper[2]
    z = paper[4]
    cost_below = cost_at(forms[k], y)
    cost_above = cost_at(forms[j], z)
    if cost_below is None or cost_above is None or y >= shares[k] or z <= shares[j]:
        return False
    low = up(cost_at(forms[k], shares[k]) - cost_below, shares[k] - y)
    high = down(cost_above - cost_at(forms[j], shares[j]), z - shares[j])
    return low > high


def cheapest(forms, shares):
    form = joined(forms)
    return cost_of(forms, shares) == cost_at(form, sum(shares))
