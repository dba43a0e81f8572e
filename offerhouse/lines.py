"""Straight lines of costs: a line is a pair (price, step), drawn from a low."""


def up(a, b):
    return -(-a // b)


def down(a, b):
    return a // b


def line_at(line, low, x):
    return line[0] + line[1] * (x - low)


def no_dearer(one, other, low, high):
    # `one` costs `above` more than `other` at the low, and `slope` more again with each amount behind it.
    above = one[0] - other[0]
    slope = one[1] - other[1]
    if slope > 0:
        return span_or_none(low, min(high, low + down(-above, slope)))
    if slope < 0:
        return span_or_none(max(low, low + up(above, -slope)), high)
    return None if above > 0 else (low, high)


def span_or_none(first, last):
    return (first, last) if first <= last else None


def lower_line(one, other, low, high):
    span = no_dearer(one, other, low, high)
    if span is None:
        return [stretch_on(other, low, low, high)]
    # The lines cross once at most, so the span begins at the low or ends at the high: one of the ifs at most holds.
    rows = []
    if low < span[0]:
        rows.append(stretch_on(other, low, low, span[0] - 1))
    rows.append(stretch_on(one, low, span[0], span[1]))
    if span[1] < high:
        rows.append(stretch_on(other, low, span[1] + 1, high))
    return rows


def stretch_on(line, low, first, last):
    return (first, last, line_at(line, low, first), line[1])


def sum_on(line, many):
    return line[0] * many + line[1] * (many * (many - 1) // 2)
