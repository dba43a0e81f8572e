"""The lesser and the greater of two forms, and the least costs of one."""

from offerhouse.deeds import met, outside, times
from offerhouse.forms import drawn_to, laid, offered, spans_of
from offerhouse.lines import lower_line, no_dearer


def least(one, other):
    alone = outside(one, spans_of(other)) + outside(other, spans_of(one))
    return laid(sorted(lesser_rows(one, other) + alone))


# By halves, so that long forms meet long ones and each stretch is looked at but a few times.
def least_of(forms):
    if len(forms) < 2:
        return forms[0] if forms else ()
    half = len(forms) // 2
    return least(least_of(forms[:half]), least_of(forms[half:]))


def lesser_rows(one, other):
    rows = []
    for low, high, mine, yours in met(one, other):
        rows.extend(lower_line(mine, yours, low, high))
    return rows


def greatest(one, other):
    # The greater of two numbers is what the lesser one is with the signs turned.
    return times(laid(lesser_rows(times(one, -1), times(other, -1))), -1)


def at_least(form):
    rows = []
    # The least cost at the stretches behind, and the low of the next one; none are known behind the last stretch.
    best = None
    next_low = None
    for row in reversed(form):
        if best is not None and row[1] + 1 < next_low:
            rows.append((row[1] + 1, next_low - 1, best, 0))
        pieces = least_onwards(row, best)
        rows.extend(pieces)
        best = pieces[0][2]
        next_low = row[0]
    return laid(sorted(rows))


# Each amount of the row at the least cost from it on: in the row itself, or the best one behind the row.
def least_onwards(row, best):
    low = row[0]
    high = row[1]
    # Where costs fall, the last amount is the cheapest from each one on.
    line = (drawn_to(row, high), 0) if row[3] < 0 else (row[2], row[3])
    if best is None:
        return [(low, high, line[0], line[1])]
    return lower_line(line, (best, 0), low, high)


def amounts_for(form, price):
    found = [no_dearer((row[2], row[3]), (price, 0), row[0], row[1]) for row in form]
    # Costs don't count any more: at no cost, neighbours are laid together.
    return spans_of(laid([(span[0], span[1], 0, 0) for span in found if span is not None]))


def least_cost(form):
    return min([cheapest_in(row) for row in offered(form)])


def cheapest_in(row):
    if row[3] < 0:
        return (drawn_to(row, row[1]), row[1])
    return (row[2], row[0])
