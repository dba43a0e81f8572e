"""The hull of a form: what unit prices alone tell of its costs."""

from offerhouse.deeds import plus, times
from offerhouse.forms import drawn_to, holds_one, least_amount, most_amount, spans_of
from offerhouse.gains import gains
from offerhouse.least import amounts_for


def hull(form, low, high):
    # An amount costs the greatest of p * x less the gain at p: that is the gain of the gains, with price and amount
    # exchanged.
    return gains(gains(form, low, high), least_amount(form), most_amount(form))


def rising(form):
    steps = steps_of(form)
    return len(spans_of(form)) <= 1 and steps == sorted(steps)


# How much dearer each next amount is, told once for all of a stretch; amounts that follow one another are taken for
# granted.
def steps_of(form):
    steps = []
    for place, row in enumerate(form):
        if place > 0:
            steps.append(row[2] - drawn_to(form[place - 1], form[place - 1][1]))
        if not holds_one(row):
            steps.append(row[3])
    return steps


def touching(form, low, high):
    # The hull costs nowhere more than the form.
    return amounts_for(plus(form, times(hull(form, low, high), -1)), 0)
