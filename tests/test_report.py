import unittest

from helper import FAR_FORM, chance, forms_of, rule_of, some_offers
from offerhouse.books import Book, unlike_at
from offerhouse.reading import read_book, show_book
from offerhouse.report import change_lines, form_lines, report

N = 10 ** 39 + 7
LONG = "( blocks 7 at 5 times 40 plus blocks 11 at 3 times 40 )"


class FormLines(unittest.TestCase):
    def check(self, form, asked):
        told = form_lines(form)
        self.assertIs(type(told), list)
        self.assertEqual(told, asked)

    def test_nothing(self):
        self.check((), [])

    def test_one_amount_and_more(self):
        self.check(((3, 3, 7, 0),), ["3..3: 7"])
        self.check(((3, 4, 7, 0),), ["3..4: 7 + 0"])
        self.check(((0, 9, 0, 2), (12, 12, 7, 0), (15, 20, 1, 1)), ["0..9: 0 + 2", "12..12: 7", "15..20: 1 + 1"])

    def test_below_nought(self):
        self.check(((-4, -1, -9, -3), (0, 0, -7, 0)), ["-4..-1: -9 + -3", "0..0: -7"])
        self.check(((-4, 4, 9, -3),), ["-4..4: 9 + -3"])

    def test_far(self):
        self.check(((-N, N, -N, N), (2 * N, 2 * N, N, 0)), [f"-{N}..{N}: -{N} + {N}", f"{2 * N}..{2 * N}: {N}"])
        self.assertEqual(len(form_lines(FAR_FORM)), len(FAR_FORM))
        self.assertEqual(form_lines(FAR_FORM)[-1], f"{10 ** 401}..{10 ** 401}: 5")

    def test_the_list_is_the_askers_own(self):
        form = ((3, 3, 7, 0), (5, 6, 1, 1))
        told = form_lines(form)
        told.clear()
        self.check(form, ["3..3: 7", "5..6: 1 + 1"])


class Report(unittest.TestCase):
    def check(self, text, asked):
        book = read_book(text)
        told = report(book)
        self.assertIs(type(told), list)
        self.assertEqual(told, asked)
        told.clear()
        self.assertEqual(report(book), asked)
        self.assertEqual(show_book(book), text)

    def test_nothing(self):
        self.check("", [])

    def test_in_order(self):
        self.check("offer b: ( a fee 2 )\noffer a: flat 5 from 0 to 9", [
            "offer b", "0..1: 5 + 2", "2..9: 7 + 0", "offer a", "0..9: 5 + 0"])

    def test_an_offer_that_offers_nothing(self):
        self.check("offer a: ( flat 5 from 0 to 9 only 20 to 30 )\noffer b: a", ["offer a", "offer b"])

    def test_too_many(self):
        text = f"offer c: ( b or a )\noffer b: ( long only 0 to 0 )\noffer long: {LONG}\noffer a: flat 5 from 0 to 0"
        self.check(text, ["offer c", "too many", "offer b", "too many", "offer long", "too many", "offer a", "0..0: 5"])

    def test_some(self):
        source = chance(141)
        for _ in range(150):
            offers = some_offers(source, source.randrange(1, 7))
            forms = forms_of(offers)
            book = Book([(name, rule_of(spec)) for name, spec in offers])
            asked = []
            for name, spec in offers:
                asked.append(f"offer {name}")
                for low, high, price, step in forms[name]:
                    asked.append(f"{low}..{high}: {price}" + (f" + {step}" if low < high else ""))
            self.assertEqual(report(book), asked)


class ChangeLines(unittest.TestCase):
    def check(self, one, other, asked, turned):
        book, changed = read_book(one), read_book(other)
        for told, lines in ((change_lines(book, changed), asked), (change_lines(changed, book), turned)):
            self.assertIs(type(told), list)
            self.assertEqual(told, lines)
        change_lines(book, changed).append("x")
        self.assertEqual(change_lines(book, changed), asked)
        self.assertEqual((show_book(book), show_book(changed)), (one, other))

    def test_nothing(self):
        self.check("", "", [], [])

    def test_new_and_gone(self):
        self.check("", "offer a: flat 5 from 0 to 9", ["a: new"], ["a: gone"])
        self.check("offer b: flat 5 from 0 to 9", "offer a: flat 5 from 0 to 9", ["a: new", "b: gone"],
                   ["a: gone", "b: new"])

    def test_the_same(self):
        self.check("offer a: each 5 from 0 to 9", "offer b: each 5 from 5 to 9\noffer a: ( each 5 from 0 to 4 or b )",
                   ["b: new"], ["b: gone"])
        self.check("offer a: each 5 from 0 to 9", "offer a: each 5 from 0 to 9", [], [])

    def test_from(self):
        self.check("offer a: each 5 from 0 to 9", "offer a: each 5 from 0 to 8", ["a: from 9"], ["a: from 9"])
        self.check("offer a: each 5 from 0 to 9", "offer a: each 6 from 0 to 9", ["a: from 1"], ["a: from 1"])
        far = [f"a: from {N}"]
        self.check(f"offer a: each 5 from 0 to {N}", f"offer a: each 5 from 0 to {N - 1}", far, far)
        self.check("offer a: each 5 from 0 to 9", "offer a: each 5 from 1 to 9", ["a: from 0"], ["a: from 0"])

    def test_through_names(self):
        self.check("offer a: flat 5 from 0 to 9\noffer b: ( a only 3 to 9 )",
                   "offer b: ( a only 3 to 9 )\noffer a: flat 6 from 0 to 9",
                   ["a: from 0", "b: from 3"], ["a: from 0", "b: from 3"])

    def test_too_many(self):
        short, long = "offer a: flat 5 from 0 to 9", f"offer a: {LONG}"
        self.check(short, long, ["a: too many"], ["a: too many"])
        self.check(long, long, ["a: too many"], ["a: too many"])
        self.check("", long, ["a: new"], ["a: gone"])
        self.check(short + "\noffer b: ( a only 0 to 0 )", long + "\noffer b: ( a only 0 to 0 )",
                   ["a: too many", "b: too many"], ["a: too many", "b: too many"])

    def test_names_ascending(self):
        flat = "flat 5 from 0 to 9"
        one = f"offer z: {flat}\noffer b: {flat}\noffer aa: {flat}\noffer m: {flat}"
        other = f"offer m: {flat}\noffer c: {flat}\noffer a: {flat}\noffer b: each 1 from 0 to 2"
        asked = ["a: new", "aa: gone", "b: from 0", "c: new", "z: gone"]
        self.check(one, other, asked, ["a: gone", "aa: new", "b: from 0", "c: gone", "z: new"])

    def test_some(self):
        source = chance(142)
        for _ in range(150):
            offers = [some_offers(source, source.randrange(6)) for _ in range(2)]
            one, other = (Book([(name, rule_of(spec)) for name, spec in here]) for here in offers)
            mine, yours = ([name for name, rule in book.offers] for book in (one, other))
            asked = []
            for name in sorted({*mine, *yours}):
                if name not in mine or name not in yours:
                    asked.append(name + (": gone" if name in mine else ": new"))
                elif unlike_at(one, other, name) is not None:
                    asked.append(f"{name}: from {unlike_at(one, other, name)}")
            self.assertEqual(change_lines(one, other), asked)
