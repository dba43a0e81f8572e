"""Deeds on forms: what is added to costs, moved, cut out or left of the amounts."""

from offerhouse.forms import cost_at, drawn_to, laid


def plus(one, other):
    return laid([(low, high, mine[0] + yours[0], mine[1] + yours[1]) for low, high, mine, yours in met(one, other)])


# What both forms offer, in parts (low, high, line of the one, line of the other): each line is drawn from the low, so
# that the two can be added or compared as they are.
def met(one, other):
    parts = []
    first = 0
    second = 0
    while first < len(one) and second < len(other):
        mine = one[first]
        yours = other[second]
        low = max(mine[0], yours[0])
        high = min(mine[1], yours[1])
        if low <= high:
            parts.append((low, high, line_from(mine, low), line_from(yours, low)))
        # The stretch that ends later may meet the next one of the other form too.
        if mine[1] < yours[1]:
            first += 1
        else:
            second += 1
    return parts


def line_from(row, low):
    return (drawn_to(row, low), row[3])


def times(form, many):
    # By 0, neighbours come to lie on one line.
    return laid([(row[0], row[1], row[2] * many, row[3] * many) for row in form])


def raised(form, price):
    return tuple([(row[0], row[1], row[2] + price, row[3]) for row in form])


def moved(form, count):
    return tuple([moved_row(row, count) for row in form])


def moved_row(row, count):
    return (row[0] + count, row[1] + count, row[2], row[3])


def freed(form, count):
    rows = []
    at_nought = cost_at(form, 0)
    if at_nought is not None:
        rows.append((0, count, at_nought, 0))
    for row in form:
        if row[1] > 0:
            rows.append(moved_row(cut(row, max(row[0], 1), row[1]), count))
    return laid(rows)


def cut(row, low, high):
    return (low, high, drawn_to(row, low), row[3])


def within(form, low, high):
    if low > high:
        return ()
    # What costs nothing adds nothing: only the amounts that both offer count.
    return plus(form, ((low, high, 0, 0),))


def without(form, low, high):
    if low > high:
        return form
    return laid(outside(form, ((low, high),)))


# The form's amounts that the spans do not hold, as stretches in their order: not laid yet, as others may come between.
def outside(form, spans):
    rows = []
    place = 0
    for row in form:
        low = row[0]
        while place < len(spans) and spans[place][0] <= row[1]:
            if low < spans[place][0]:
                rows.append(cut(row, low, spans[place][0] - 1))
            low = max(low, spans[place][1] + 1)
            # A span that goes on behind this stretch is needed for the next one again.
            if spans[place][1] > row[1]:
                break
            place += 1
        if low <= row[1]:
            rows.append(cut(row, low, row[1]))
    return rows
