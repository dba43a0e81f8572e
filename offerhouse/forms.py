"""Forms: tuples of stretches (low, high, price, step), one form for each offer."""

from offerhouse.errors import NotOffered
from offerhouse.lines import line_at


def is_form(value):
    if not isinstance(value, tuple):
        return False
    if not all([is_plain_stretch(row) for row in value]):
        return False
    return all([may_follow(ahead, row) for ahead, row in zip(value, value[1:])])


def is_plain_stretch(row):
    if not isinstance(row, tuple) or len(row) != 4:
        return False
    if not all([is_whole(part) for part in row]):
        return False
    return row[0] < row[1] or (row[0] == row[1] and row[3] == 0)


def is_whole(part):
    # Python counts True and False among its whole numbers.
    return isinstance(part, int) and not isinstance(part, bool)


def may_follow(ahead, row):
    if row[0] != ahead[1] + 1:
        return row[0] > ahead[1]
    # Two amounts that follow one another always lie on one line, so one alone never stands beside the next.
    return not holds_one(ahead) and row[2] != drawn_to(ahead, row[0])


def holds_one(row):
    return row[0] == row[1]


def drawn_to(row, x):
    return line_at((row[2], row[3]), row[0], x)


def laid(rows):
    made = []
    for row in rows:
        if made and made[-1][1] + 1 == row[0]:
            ahead = made.pop()
            made.extend(laid_beside(ahead, row))
        else:
            made.append(plain(row))
    return tuple(made)


def laid_beside(ahead, row):
    # One amount alone has no line of its own yet: the next amount gives it one.
    step = row[2] - ahead[2] if holds_one(ahead) else ahead[3]
    if row[2] != line_at((ahead[2], step), ahead[0], row[0]):
        return [ahead, plain(row)]
    if holds_one(row) or row[3] == step:
        return [(ahead[0], row[1], ahead[2], step)]
    # The stretch ahead takes the first amount of the row, and its line leaves the row's behind that.
    rest = plain((row[0] + 1, row[1], row[2] + row[3], row[3]))
    return [(ahead[0], row[0], ahead[2], step), rest]


def plain(row):
    return (row[0], row[1], row[2], 0) if holds_one(row) else row


def cost_at(form, x):
    place = place_of(form, x)
    if place == len(form) or x < form[place][0]:
        return None
    return drawn_to(form[place], x)


def place_of(form, x):
    # Halving finds the first stretch that does not end below x: costs are asked of long forms again and again.
    first = 0
    behind = len(form)
    while first < behind:
        middle = (first + behind) // 2
        if form[middle][1] < x:
            first = middle + 1
        else:
            behind = middle
    return first


def spans_of(form):
    spans = []
    for row in form:
        if spans and spans[-1][1] + 1 == row[0]:
            ahead = spans.pop()
            spans.append((ahead[0], row[1]))
        else:
            spans.append((row[0], row[1]))
    return tuple(spans)


def least_amount(form):
    return offered(form)[0][0]


def most_amount(form):
    return offered(form)[-1][1]


def offered(form):
    if len(form) == 0:
        raise NotOffered("the form offers nothing")
    return form


def how_many(form):
    return sum([row[1] - row[0] + 1 for row in form])


def first_unlike(one, other):
    for mine, yours in zip(one, other):
        if mine != yours:
            return first_apart(mine, yours)
    shared = min(len(one), len(other))
    # Of two forms that share all stretches of the shorter one, the longer one goes on alone.
    rest = one[shared:] + other[shared:]
    return rest[0][0] if rest else None


def first_apart(mine, yours):
    if mine[0] != yours[0]:
        return min(mine[0], yours[0])
    if mine[2] != yours[2]:
        return mine[0]
    # One amount alone has step 0 and nothing beside it, so the next amount tells it from a longer stretch too.
    if mine[3] != yours[3]:
        return mine[0] + 1
    # Behind a stretch no form goes on along that stretch's own line.
    return min(mine[1], yours[1]) + 1
