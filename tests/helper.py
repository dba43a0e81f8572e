"""What several tests share: costs looked at one by one, and numbers to try."""

import random


def costs_in(rows):
    """A dict from each amount that the stretches hold to its cost."""
    return {
        low + count: price + step * count
        for low, high, price, step in rows
        for count in range(high - low + 1)
    }


def form_from(costs):
    """The form of a dict of costs, built amount by amount as point 0.5 tells."""
    rows = []
    for x in sorted(costs):
        if rows and rows[-1][1] == x - 1:
            low, high, price, step = rows[-1]
            if low == high:
                rows[-1] = (low, x, price, costs[x] - price)
                continue
            if costs[high] + step == costs[x]:
                rows[-1] = (low, x, price, step)
                continue
        rows.append((x, x, costs[x], 0))
    return tuple(rows)


def small_forms(parts, choices):
    """The forms of all lists of so many parts, each one of the choices (None: not offered)."""
    lists = [[]]
    for _ in range(parts):
        lists = [costs + [choice] for costs in lists for choice in choices]
    return [
        form_from({x: cost for x, cost in enumerate(costs) if cost is not None})
        for costs in lists
    ]


def chance(seed):
    """A source of numbers that is the same in each run."""
    return random.Random(seed)


def far_number(source, figures):
    """A number of either sign with so many figures."""
    number = source.randrange(10 ** (figures - 1), 10 ** figures)
    return number if source.randrange(2) else -number


def cut_up(form, source, cuts):
    """Stretches that hold what the form holds, each of the form's cut in several; one amount alone has any step."""
    rows = []
    for low, high, price, step in form:
        places = {low}
        for _ in range(cuts):
            places.add(source.randrange(low, high + 1))
            places.add(min(high, low + source.randrange(4)))
            places.add(max(low, high - source.randrange(4)))
        lows = sorted(places)
        ends = [place - 1 for place in lows[1:]] + [high]
        for first, last in zip(lows, ends):
            own = step if first < last else source.randrange(-9, 10)
            rows.append((first, last, price + step * (first - low), own))
    return rows


FAR_FORM = (
    (-10 ** 60, -10 ** 30, 7, -3),
    (-10 ** 30 + 1, 5, 10 ** 70, 10 ** 45),
    (7, 7, -10 ** 49, 0),
    (9, 10 ** 40, 0, 0),
    (10 ** 40 + 1, 10 ** 40 + 2, 1, -(10 ** 400 - 1)),
    (10 ** 40 + 3, 10 ** 400, 1, 2),
    (10 ** 401, 10 ** 401, 5, 0),
)
