"""The desk: a book of offers that is changed deed by deed, and orders that its offers fill."""

from offerhouse.books import Book, forms_for, quote, rule_of
from offerhouse.errors import BadName, Leaned, NothingBack
from offerhouse.forms import cost_at
from offerhouse.house import shares_at
from offerhouse.papers import paper_for
from offerhouse.reading import show_book
from offerhouse.wording import is_name, read_rule


class Desk:
    def __init__(self):
        self.book = Book([])
        # The deeds that are not undone: the name of each, and the book that was there ahead of it.
        self.done = []

    def put(self, name, text):
        if not is_name(name):
            raise BadName(f"{name!r} is no name")
        rules = dict(self.book.rules)
        # A name that is there keeps its place in the dict.
        rules[name] = read_rule(text)
        self.turn_to(rules, name)

    def drop(self, name):
        rule_of(self.book, name)
        for other in self.names():
            if name in rule_of(self.book, other).names():
                raise Leaned(f"the offer {other} names {name}")
        rules = dict(self.book.rules)
        rules.pop(name)
        self.turn_to(rules, name)

    def turn_to(self, rules, name):
        # A book that is refused leaves the desk as it is.
        book = Book(list(rules.items()))
        self.done.append((name, self.book))
        self.book = book

    def back(self):
        if not self.done:
            raise NothingBack("no deed is left to undo")
        last = self.done.pop()
        self.book = last[1]
        return last[0]

    def names(self):
        return list(self.book.rules)

    def text(self):
        return show_book(self.book)

    def deeds(self):
        return len(self.done)

    def quote(self, name, x):
        return quote(self.book, name, x)

    def filled(self, names, x):
        forms = self.sellers(names)
        shares = shares_at(forms, x)
        return [(name, share, cost_at(form, share)) for name, form, share in zip(names, forms, shares)]

    def paper(self, names, x):
        forms = self.sellers(names)
        return paper_for(forms, shares_at(forms, x))

    def sellers(self, names):
        forms = forms_for(self.book, names)
        return [forms[name] for name in names]
