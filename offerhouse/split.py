"""The split of two forms, by what is split over one stretch of each; sellers of any number are split over alike."""

from offerhouse.errors import NotOffered, TooMany
from offerhouse.forms import drawn_to, laid
from offerhouse.least import least_of

MOST_PICKS = 100


def chain(one, other):
    return poured([one[0], other[0]])


def split(one, other):
    return least_poured([one, other])


def parts_at(one, other, x):
    shares = best_dealt([one, other], x)
    return (shares[0], shares[1])


# Stretches, one of each seller, that sell together: from the lows on, each further piece is bought where the step is
# least, as a stretch's next piece costs the same as its last one did.
def poured(rows):
    low = sum([row[0] for row in rows])
    price = sum([row[2] for row in rows])
    made = [(low, low, price, 0)]
    for row in sorted(rows, key=step_of):
        more = row[1] - row[0]
        if more > 0:
            made.append((low + 1, low + more, price + row[3], row[3]))
        low += more
        price += row[3] * more
    return laid(made)


def step_of(row):
    return row[3]


def least_poured(forms):
    return least_of([poured(rows) for rows in picks(forms)])


# All ways to pick one stretch of each seller.
def picks(forms):
    if how_many_picks(forms) > MOST_PICKS:
        raise TooMany("there are too many ways to pick a stretch of each seller")
    # Where one seller has no stretch there is no way, however many the other ones have.
    if how_many_picks(forms) == 0:
        return []
    ways = [[]]
    for form in forms:
        longer = []
        for rows in ways:
            longer.extend([rows + [row] for row in form])
        ways = longer
    return ways


def how_many_picks(forms):
    many = 1
    for form in forms:
        many *= len(form)
    return many


def best_dealt(forms, x):
    found = [cost_and_shares(rows, x) for rows in picks(forms) if reaches(rows, x)]
    if not found:
        raise NotOffered("no shares come to the amount")
    return min(found)[1]


def reaches(rows, x):
    return sum([row[0] for row in rows]) <= x <= sum([row[1] for row in rows])


def cost_and_shares(rows, x):
    shares = dealt(rows, x)
    return (sum([drawn_to(row, share) for row, share in zip(rows, shares)]), shares)


# The shares of x by which the stretches sell it together, bought as in `poured`.
def dealt(rows, x):
    shares = [row[0] for row in rows]
    left = x - sum(shares)
    for place in sorted(range(len(rows)), key=lambda here: rows[here][3]):
        more = min(left, rows[place][1] - rows[place][0])
        shares[place] += more
        left -= more
    return shares
