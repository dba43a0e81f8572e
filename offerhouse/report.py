"""Reports: forms in words, all offers of a book, and what changed from one book to another."""

from offerhouse.books import order_of, rule_of
from offerhouse.errors import TooMany
from offerhouse.forms import first_unlike, holds_one
from offerhouse.wording import number_text


def form_lines(form):
    return [stretch_line(row) for row in form]


def stretch_line(row):
    low = number_text(row[0])
    high = number_text(row[1])
    price = number_text(row[2])
    step = number_text(row[3])
    return f"{low}..{high}: {price}" if holds_one(row) else f"{low}..{high}: {price} + {step}"


def report(book):
    forms = all_forms(book)
    lines = []
    for name in book.rules:
        lines.append(f"offer {name}")
        lines.extend(["too many"] if forms[name] is None else form_lines(forms[name]))
    return lines


# The forms of all offers by their names, each worked out once; None for one that is refused with TooMany.
def all_forms(book):
    forms = {}
    for name in book.rules:
        for needed in order_of(book, name):
            if needed not in forms:
                forms[needed] = form_or_none(rule_of(book, needed), forms)
    return forms


def form_or_none(rule, forms):
    if None in [forms[name] for name in rule.names()]:
        return None
    try:
        return rule.form(forms)
    except TooMany:
        return None


def change_lines(book, other):
    ours = all_forms(book)
    theirs = all_forms(other)
    lines = []
    for name in sorted(set(list(ours) + list(theirs))):
        lines.extend(change_of(ours, theirs, name))
    return lines


def change_of(ours, theirs, name):
    if name not in ours:
        return [f"{name}: new"]
    if name not in theirs:
        return [f"{name}: gone"]
    if ours[name] is None or theirs[name] is None:
        return [f"{name}: too many"]
    x = first_unlike(ours[name], theirs[name])
    return [] if x is None else [f"{name}: from {x}"]
