"""What is promised over the whole program: its interface, that all parts tell the same, and that nothing is kept."""

import copy
import importlib
import inspect
import itertools
import unittest

from helper import chance, costs_in, costs_of, form_from, forms_of, rule_of, some_offers, split_costs, words_of
from offerhouse import books, rules
from offerhouse.books import Book, form_of
from offerhouse.desk import Desk
from offerhouse.errors import NotOffered, TooMany
from offerhouse.examiner import cheapest, paper_holds
from offerhouse.forms import cost_at, first_unlike, spans_of
from offerhouse.gains import best_amounts, gain_at, gains
from offerhouse.house import cost_of, joined, shares_at, spared, standing
from offerhouse.hull import hull, touching
from offerhouse.papers import paper_for, prices_at, shares_shown, shows
from offerhouse.reading import read_book, show_book
from offerhouse.report import form_lines, report
from offerhouse.split import parts_at, split
from offerhouse.wording import read_rule

# The functions and their parameters as the document writes them.
FUNCTIONS = {
    "lines": ["up a b", "down a b", "line_at line low x", "no_dearer one other low high",
              "lower_line one other low high", "sum_on line many"],
    "forms": ["is_form value", "laid rows", "cost_at form x", "spans_of form", "least_amount form", "most_amount form",
              "how_many form", "first_unlike one other"],
    "costs": ["from_costs first costs", "costs_between form low high", "sum_between form low high"],
    "deeds": ["plus one other", "times form many", "raised form price", "moved form count", "freed form count",
              "within form low high", "without form low high"],
    "least": ["least one other", "greatest one other", "at_least form", "amounts_for form price", "least_cost form"],
    "wording": ["is_name text", "number_text number", "number_of text", "read_rule text"],
    "split": ["chain one other", "split one other", "parts_at one other x"],
    "house": ["joined forms", "cost_of forms shares", "shares_at forms x", "spared forms k",
              "standing forms least_shares"],
    "gains": ["gain_at form p", "gains form low high", "best_amounts form p"],
    "hull": ["hull form low high", "rising form", "touching form low high"],
    "papers": ["shows form x p", "prices_at form x", "shares_shown forms shares", "paper_for forms shares"],
    "examiner": ["paper_holds forms shares paper", "cheapest forms shares"],
    "books": ["rule_of book name", "order_of book name", "form_of book name", "quote book name x",
              "unlike_at book other name"],
    "reading": ["read_book text", "show_book book"],
    "report": ["form_lines form", "report book", "change_lines book other"],
}
CLASSES = {
    "rules": {
        "Each": "unit low high", "Flat": "price low high", "Bands": "rows", "Steps": "rows", "Named": "name",
        "Blocks": "size price many", "Sum": "one other", "Cheaper": "one other", "Dearer": "one other",
        "Only": "one low high", "After": "one count", "Roomy": "one", "Fee": "one price",
    },
    "books": {"Book": "offers"},
    "desk": {"Desk": ""},
}
METHODS = {
    rules.Rule: ["cost x forms", "form forms", "written", "names"],
    Desk: ["put name text", "drop name", "back", "names", "text", "deeds", "quote name x", "filled names x",
           "paper names x"],
}
FORM = ((-4, -1, 9, -3), (0, 0, 7, 0), (2, 4, 1, 5), (5, 6, 0, 0), (9, 9, -8, 0))
OTHER = ((0, 5, 3, 2), (8, 9, 0, 1))
LINE = ((0, 9, 4, 3),)
ROWS = [(0, 4, 5, 2), (5, 9, 15, 2), (12, 12, 7, 3)]
TEXT = "offer a: ( b fee 3 )\noffer b: ( steps 3:5 9:4 or c )\noffer c: each 6 from 1 to 12"

# What each function is asked with; books are made of their text anew.
HANDED = {
    "up": (7, 2), "down": (7, 2), "line_at": ((3, 2), 1, 5), "no_dearer": ((3, 2), (9, 0), 0, 9),
    "lower_line": ((3, 2), (9, 0), 0, 9), "sum_on": ((3, 2), 5), "is_form": (FORM,), "laid": (ROWS,),
    "cost_at": (FORM, 3), "spans_of": (FORM,), "least_amount": (FORM,), "most_amount": (FORM,), "how_many": (FORM,),
    "first_unlike": (FORM, OTHER), "from_costs": (3, [1, None, 4, 5]), "costs_between": (FORM, -3, 9),
    "sum_between": (FORM, -3, 9), "plus": (FORM, OTHER), "times": (FORM, 3), "raised": (FORM, 3), "moved": (FORM, 3),
    "freed": (FORM, 3), "within": (FORM, 0, 4), "without": (FORM, 0, 4), "least": (FORM, OTHER),
    "greatest": (FORM, OTHER), "at_least": (FORM,), "amounts_for": (FORM, 6), "least_cost": (FORM,),
    "is_name": ("oak",), "number_text": (-70,), "number_of": ("-70",), "chain": (LINE, OTHER[:1]),
    "split": (FORM, OTHER), "parts_at": (FORM, OTHER, 9), "joined": ([FORM, OTHER, LINE],),
    "cost_of": ([FORM, OTHER], [3, 8]), "shares_at": ([FORM, OTHER, LINE], 9), "spared": ([FORM, OTHER, LINE], 1),
    "standing": ([FORM, OTHER], [3, 4]), "gain_at": (FORM, 3), "gains": (FORM, -5, 5), "best_amounts": (FORM, 3),
    "hull": (FORM, -5, 5), "rising": (FORM,), "touching": (FORM, -5, 5), "shows": (FORM, 3, 2), "prices_at": (FORM, 3),
    "shares_shown": ([FORM, OTHER], [3, 8]), "paper_for": ([FORM, OTHER], [3, 8]),
    "paper_holds": ([FORM, OTHER], [3, 8], ("bars", 0, 2, 1, 9)), "cheapest": ([FORM, OTHER], [3, 8]),
    "form_lines": (FORM,),
}
ASKED_OF_BOOKS = {
    "rule_of": ("a",), "order_of": ("a",), "form_of": ("a",), "quote": ("a", 3), "show_book": (), "report": (),
    "unlike_at": ("a",), "change_lines": (),
}


def function_of(name):
    for file, rows in FUNCTIONS.items():
        if name in [row.split()[0] for row in rows]:
            return getattr(importlib.import_module("offerhouse." + file), name)
    raise KeyError(name)


def handed_to(name):
    """Fresh arguments for a function of books."""
    handed = [read_book(TEXT)]
    if name in ("unlike_at", "change_lines"):
        handed.append(read_book(TEXT.replace("steps 3:5", "steps 3:6") + "\noffer d: a"))
    return handed + list(ASKED_OF_BOOKS[name])


def seen(value):
    """A value with rules and books in it as their texts, so that two can be compared."""
    if isinstance(value, rules.Rule):
        return ("rule", value.written())
    if isinstance(value, Book):
        return ("book", show_book(value), [(name, rule.written()) for name, rule in value.offers])
    if isinstance(value, (list, tuple)):
        return type(value)(seen(part) for part in value)
    return value


def lists_in(value):
    """All lists within what is told or handed in, the field of a book among them."""
    if isinstance(value, Book):
        return lists_in(value.offers)
    parts = [found for part in value for found in lists_in(part)] if isinstance(value, (list, tuple)) else []
    return parts + [value] if isinstance(value, list) else parts


def spoil(value):
    for found in lists_in(value):
        found.reverse()
        found.append("spoilt")


class Interface(unittest.TestCase):
    def test_functions(self):
        for file, rows in FUNCTIONS.items():
            for row in rows:
                name, *parameters = row.split()
                asked = function_of(name)
                self.assertEqual(list(inspect.signature(asked).parameters), parameters, (file, name))
                self.assertEqual(asked.__module__, "offerhouse." + file)

    def test_classes(self):
        for file, made in CLASSES.items():
            for name, parameters in made.items():
                kind = getattr(importlib.import_module("offerhouse." + file), name)
                self.assertEqual(list(inspect.signature(kind).parameters), parameters.split(), name)

    def test_methods(self):
        kinds = [getattr(rules, name) for name in CLASSES["rules"]]
        for owner, rows in METHODS.items():
            for row in rows:
                name, *parameters = row.split()
                for kind in kinds if owner is rules.Rule else [owner]:
                    self.assertEqual(list(inspect.signature(getattr(kind, name)).parameters)[1:], parameters, name)

    def test_each_function_is_tried_below(self):
        tried = {*HANDED, *ASKED_OF_BOOKS, "read_rule", "read_book"}
        self.assertEqual(tried, {row.split()[0] for rows in FUNCTIONS.values() for row in rows})


class NothingKept(unittest.TestCase):
    def check(self, asked, handed):
        """Nothing handed in is changed or kept, and what is told is the asker's own."""
        ahead = seen(handed)
        fresh = copy.deepcopy(handed)
        told = asked(*handed)
        kept = seen(copy.deepcopy(told))
        self.assertEqual(seen(handed), ahead)
        self.assertEqual(seen(asked(*handed)), kept)
        lists = lists_in(told)
        self.assertEqual(len({id(found) for found in lists}), len(lists))
        self.assertFalse({id(found) for found in lists} & {id(found) for found in lists_in(handed)})
        spoil(told)
        self.assertEqual(seen(handed), ahead)
        self.assertEqual(seen(asked(*handed)), kept)
        # What is done to what was handed in changes nothing that was told.
        last = asked(*handed)
        spoil(handed)
        self.assertEqual(seen(last), kept)
        self.assertEqual(seen(asked(*fresh)), kept)

    def test_functions(self):
        for name, handed in HANDED.items():
            with self.subTest(name):
                self.check(function_of(name), copy.deepcopy(list(handed)))

    def test_functions_of_books(self):
        for name in ASKED_OF_BOOKS:
            with self.subTest(name):
                handed = handed_to(name)
                told = function_of(name)(*handed)
                if name == "rule_of":
                    self.assertEqual(told.written(), rules.Fee(rules.Named("b"), 3).written())
                    continue
                self.check_told(name, told)

    def check_told(self, name, told):
        kept = seen(copy.deepcopy(told))
        for _ in range(2):
            handed = handed_to(name)
            ahead = seen(handed)
            here = function_of(name)(*handed)
            self.assertEqual(seen(here), kept)
            spoil(here)
            self.assertEqual(seen(handed), ahead)
            self.assertEqual(seen(function_of(name)(*handed)), kept)
            for book in handed[:1]:
                spoil(book)
            self.assertEqual(seen(function_of(name)(*handed)), kept)

    def test_readers(self):
        for text in ("( a fee 3 )", "( bands 1:2 3:4 or b )"):
            self.check(read_rule, [text])
        self.check(read_book, [TEXT])
        self.check(read_book, [""])

    def test_rules(self):
        forms = {"a": FORM, "b": OTHER, "spare": LINE}
        one = ("Named", "a")
        for spec in (
            ("Each", 3, 0, 5), ("Flat", 4, 0, 7), ("Bands", [(4, 5), (9, 3)]), ("Steps", [(4, 5), (9, 3)]),
            ("Blocks", 3, 5, 3), one, ("Sum", one, ("Named", "b")), ("Cheaper", one, ("Named", "b")),
            ("Dearer", one, ("Named", "b")), ("Only", one, 2, 5), ("After", one, 3), ("Roomy", one), ("Fee", one, 6),
        ):
            rule = rule_of(spec)
            kept = [rule.written(), rule.names(), rule.form(forms), [rule.cost(x, forms) for x in range(-5, 12)]]
            rule.names().append("spoilt")
            self.assertEqual(list(forms), ["a", "b", "spare"])
            changed = dict(forms)
            told = rule.form(changed)
            changed.clear()
            self.assertEqual(told, kept[2])
            self.assertEqual(
                [rule.written(), rule.names(), rule.form(forms), [rule.cost(x, forms) for x in range(-5, 12)]], kept)

    def test_rows_of_rules(self):
        for kind in (rules.Bands, rules.Steps):
            rows = [(4, 5), (9, 3)]
            rule = kind(rows)
            told = (rule.written(), rule.form({}))
            rows.append((20, 1))
            rows[0] = (1, 1)
            self.assertEqual((rule.written(), rule.form({})), told)

    def test_book(self):
        offers = [("a", rules.Flat(5, 0, 9)), ("b", rules.Named("a"))]
        book = Book(offers)
        offers.clear()
        self.assertEqual([name for name, rule in book.offers], ["a", "b"])
        self.assertEqual(report(book), ["offer a", "0..9: 5 + 0", "offer b", "0..9: 5 + 0"])

    def test_desk(self):
        desk = Desk()
        for line in TEXT.split("\n")[::-1]:
            desk.put(line[6], line[9:])
        names = ["a", "b", "c"]
        asked = {
            desk.names: [], desk.text: [], desk.deeds: [], desk.quote: ["a", 3], desk.filled: [names, 9],
            desk.paper: [names, 9],
        }
        told = {ask: copy.deepcopy(ask(*handed)) for ask, handed in asked.items()}
        for ask, handed in asked.items():
            spoil(ask(*handed))
            self.assertEqual(names, ["a", "b", "c"])
            self.assertEqual({again: again(*asked[again]) for again in asked}, told)


class TheSameAtEveryAmount(unittest.TestCase):
    """Rules, forms, books, splits, gains and papers over the same offers."""

    def offers(self, source):
        offers = some_offers(source, source.randrange(1, 5))
        return offers, forms_of(offers), Book([(name, rule_of(spec)) for name, spec in offers])

    def test_rules_forms_and_books(self):
        source = chance(151)
        for _ in range(100):
            offers, forms, book = self.offers(source)
            again = read_book(show_book(book))
            for name, spec in offers:
                costs = costs_of(spec, forms)
                rule = read_rule(words_of(spec))
                form = form_of(again, name)
                self.assertEqual(form, form_from(costs))
                self.assertEqual(form, rule.form(forms))
                self.assertIsNone(first_unlike(form, form_of(book, name)))
                for x in range(min(costs, default=0) - 2, max(costs, default=0) + 3):
                    self.assertEqual(rule.cost(x, forms), costs.get(x))
                    self.assertEqual(cost_at(form, x), costs.get(x))
                    self.assertEqual(self.quoted(book, name, x), costs.get(x))

    def quoted(self, book, name, x):
        try:
            return books.quote(book, name, x)
        except NotOffered:
            return None

    def sellers(self, source):
        """Some offers' forms that are not too many together, none of them empty, and their names and book."""
        while True:
            offers, forms, book = self.offers(source)
            names = [source.choice(sorted(forms)) for _ in range(source.randrange(1, 4))]
            chosen = [forms[name] for name in names]
            try:
                joined(chosen)
            except TooMany:
                continue
            if all(chosen) and len(split_costs(*map(costs_in, chosen))) < 80:
                return names, chosen, book

    def test_splits_gains_and_papers(self):
        source = chance(152)
        for _ in range(60):
            names, forms, book = self.sellers(source)
            desk = Desk()
            for line in reversed(show_book(book).split("\n")):
                name, text = line[6:].split(": ", 1)
                desk.put(name, text)
            costs = split_costs(*map(costs_in, forms))
            together = joined(forms)
            self.assertEqual(together, form_from(costs))
            self.check_gains(forms, together, costs)
            for x in range(min(costs) - 1, max(costs) + 2):
                self.check_amount(names, forms, desk, x, costs.get(x))

    def check_gains(self, forms, together, costs):
        gained = gains(together, -9, 9)
        below = hull(together, -9, 9)
        for p in range(-9, 10):
            best = max(p * x - cost for x, cost in costs.items())
            self.assertEqual(gain_at(together, p), best)
            self.assertEqual(cost_at(gained, p), best)
            self.assertEqual(sum(gain_at(form, p) for form in forms), best)
            self.assertEqual(gain_at(below, p), best)
            for low, high in best_amounts(together, p):
                for x in range(low, high + 1):
                    self.assertEqual(p * x - costs[x], best)
                    self.assertTrue(shows(together, x, p))
                    self.assertEqual(cost_at(below, x), costs[x])
        held = [x for low, high in touching(together, -9, 9) for x in range(low, high + 1)]
        self.assertEqual(held, [x for x in sorted(costs) if cost_at(below, x) == costs[x]])

    def check_amount(self, names, forms, desk, x, cost):
        if cost is None:
            for asked, handed in ((shares_at, (forms, x)), (desk.filled, (names, x)), (desk.paper, (names, x))):
                with self.assertRaises(NotOffered):
                    asked(*handed)
            return
        shares = shares_at(forms, x)
        self.assertEqual((sum(shares), cost_of(forms, shares)), (x, cost))
        self.assertTrue(cheapest(forms, shares))
        self.assertTrue(paper_holds(forms, shares, paper_for(forms, shares)))
        filled = desk.filled(names, x)
        self.assertEqual((sum(row[1] for row in filled), sum(row[2] for row in filled)), (x, cost))
        self.assertTrue(paper_holds(forms, [row[1] for row in filled], desk.paper(names, x)))
        low, high = shares_shown(forms, shares)
        if low is not None and high is not None and low <= high:
            # A price that shows the shares shows their sum in the joined form.
            self.assertTrue(shows(joined(forms), x, low) and shows(joined(forms), x, high))
        if len(forms) == 2:
            parts = parts_at(forms[0], forms[1], x)
            self.assertEqual(cost_of(forms, list(parts)), cost)
            self.assertEqual(cost_at(split(forms[0], forms[1]), x), cost)

    def test_spared_and_standing(self):
        source = chance(153)
        for _ in range(60):
            names, forms, book = self.sellers(source)
            together = joined(forms)
            # With no seller bound by a least share, they stand as they are joined.
            self.assertEqual(standing(forms, [form[0][0] for form in forms]), together)
            for k in range(len(forms)):
                others = joined(forms[:k] + forms[k + 1:])
                told = spared(forms, k)
                for low, high in spans_of(told):
                    for x in range(low, high + 1):
                        self.assertEqual(cost_at(told, x), cost_at(others, x) - cost_at(together, x))

    def test_far(self):
        n = 10 ** 39 + 7
        text = f"offer a: ( each 7 from 0 to {n} fee {n} )\noffer b: each 9 from 0 to {3 * n}\noffer c: ( a or b )"
        book = read_book(text)
        forms = [form_of(book, name) for name in ("a", "b")]
        together = joined(forms)
        self.assertEqual(together, split(forms[1], forms[0]))
        self.assertEqual(form_lines(form_of(book, "b")), [f"0..{3 * n}: 0 + 9"])
        for x, k in itertools.product((0, n, 2 * n, 4 * n), (0, 1, 2, 5)):
            cost = cost_at(together, x - k)
            if cost is not None:
                shares = shares_at(forms, x - k)
                self.assertEqual(cost_of(forms, shares), cost)
                self.assertTrue(paper_holds(forms, shares, paper_for(forms, shares)))
        # Where the whole of a is sold, b's unit price shows it.
        self.assertEqual(shares_at(forms, 2 * n), [n, n])
        self.assertEqual(paper_for(forms, [n, n]), ("price", 9))
        self.assertEqual(prices_at(forms[1], n), (9, 9))
