import itertools
import unittest

from helper import rule_of, words_of
from offerhouse.books import Book, quote
from offerhouse.errors import BadLine, BadName, BadRule, NoOffer, Ring, TooMany, Twice
from offerhouse.reading import read_book, show_book

FLAT = "flat 5 from 0 to 9"
LONG = "( blocks 7 at 5 times 40 plus blocks 11 at 3 times 40 )"


def many_lines(many):
    letters = "abcdefghijklmnopqrstuvwxyz"
    names = [letter + other for letter in letters for other in "qx"][:many]
    return [f"offer {name}: {FLAT}" for name in names]


class Written(unittest.TestCase):
    def check(self, text, names):
        book = read_book(text)
        self.assertIs(type(book), Book)
        self.assertEqual([name for name, rule in book.offers], names)
        self.assertEqual(show_book(book), text)
        self.assertEqual(show_book(read_book(show_book(book))), text)

    def test_nothing(self):
        self.assertEqual(show_book(Book([])), "")
        self.check("", [])

    def test_one_offer(self):
        self.check(f"offer oak: {FLAT}", ["oak"])
        self.check("offer a: ( ( bands 3:5 7:-1 fee 4 ) or blocks 3 at 5 times 2 )", ["a"])
        self.check("offer offer: flat 0 from 0 to 0", ["offer"])
        self.check(f"offer long: {LONG}", ["long"])

    def test_thirty(self):
        lines = many_lines(30)
        self.check("\n".join(lines), [line.split()[1][:-1] for line in lines])

    def test_one_further_down(self):
        self.check(f"offer a: ( b plus c )\noffer c: {FLAT}\noffer b: ( c fee 3 )", ["a", "c", "b"])
        book = read_book(f"offer a: ( b plus c )\noffer c: {FLAT}\noffer b: ( c fee 3 )")
        self.assertEqual([quote(book, "a", x) for x in (0, 1)], [10, 13])

    def test_the_order_stays(self):
        lines = ["offer c: ( a or b )", f"offer b: {FLAT}", "offer a: ( b roomy )"]
        for order in itertools.permutations(lines):
            self.check("\n".join(order), [line[6] for line in order])

    def test_each_kind_of_rule(self):
        one = ("Named", "a")
        specs = [
            ("Each", 3, 0, 5), ("Flat", -4, 0, 7), ("Bands", [(0, 9), (1, -1)]), ("Steps", [(3, 5), (7, 4)]),
            ("Blocks", 1, 5, 40), one, ("Sum", one, one), ("Cheaper", one, one), ("Dearer", one, one),
            ("Only", one, 2, 5), ("After", one, 3), ("Roomy", one), ("Fee", one, -6),
        ]
        names = ["b" + letter for letter in "cdefghijklmnopq"][:len(specs)]
        text = "\n".join([f"offer a: {FLAT}"] + [f"offer {name}: {words_of(spec)}" for name, spec in zip(names, specs)])
        self.check(text, ["a"] + names)
        book = Book([("a", rule_of(("Flat", 5, 0, 9)))] + [(name, rule_of(spec)) for name, spec in zip(names, specs)])
        self.assertEqual(show_book(book), text)

    def test_the_same_again(self):
        text = f"offer a: ( b fee 3 )\noffer b: {FLAT}"
        one, other = read_book(text), read_book(text)
        self.assertIsNot(one.offers, other.offers)
        one.offers.clear()
        self.assertEqual(len(other.offers), 2)
        self.assertEqual(len(read_book(text).offers), 2)
        self.assertEqual(show_book(one), text)


class Refused(unittest.TestCase):
    def refused(self, refusal, text):
        with self.assertRaises(refusal, msg=text) as caught:
            read_book(text)
        self.assertIs(type(caught.exception), refusal, text)

    def among(self, refusal, line):
        """Refused by itself, and ahead of, between and behind lines that are right."""
        right = many_lines(3)
        for place in range(4):
            self.refused(refusal, "\n".join(right[:place] + [line] + right[place:]))

    def test_too_many(self):
        for many in (31, 32, 50):
            self.refused(TooMany, "\n".join(many_lines(many)))
        self.refused(TooMany, "\n" * 30)
        self.refused(BadLine, "\n" * 29)
        self.refused(TooMany, "\n".join(many_lines(30)) + "\n")

    def test_bad_line(self):
        for line in (
            "offer", "offer ", "offer a", "offer a:", "offer a flat 5 from 0 to 9", f"offer a:{FLAT}", f"a: {FLAT}",
            f"offer  a {FLAT}", f" offer a: {FLAT}", f"Offer a: {FLAT}", f"offera: {FLAT}", f"offer: {FLAT}", ": ", "a",
            f"offers a: {FLAT}", f"OFFER a: {FLAT}", f"off er a: {FLAT}", " ", "offer a ;b", "offer a :b",
            "offer bands 1:2",
        ):
            self.refused(BadLine, line)
            self.among(BadLine, line)
        self.among(BadLine, "")

    def test_line_ends(self):
        text = f"offer a: {FLAT}"
        for bad in (text + "\n", "\n" + text, text + "\n\n" + "offer b: a", "\n", "\n\n"):
            self.refused(BadLine, bad)

    def test_bad_name(self):
        for name in ("", " ", "A", "oak1", "ninesigns", "each", "to", "offer a", "a ", " a", "a:", "a,b", "-", ":"):
            self.refused(BadName, f"offer {name}: {FLAT}")
            self.among(BadName, f"offer {name}: {FLAT}")

    def test_the_name_ends_ahead_of_the_first(self):
        # What is behind the first end of a name is the rule, with all further ones.
        self.refused(BadRule, f"offer a: b: {FLAT}")
        self.refused(BadRule, "offer a: : ")
        self.refused(BadName, f"offer a : b: {FLAT}")
        self.refused(BadName, f"offer : a: {FLAT}")
        self.assertEqual(show_book(read_book("offer a: bands 1:2")), "offer a: bands 1:2")

    def test_twice(self):
        self.among(Twice, f"offer aq: {FLAT}")
        self.refused(Twice, f"offer a: {FLAT}\noffer b: {FLAT}\noffer a: each 1 from 0 to 2")
        self.refused(Twice, f"offer a: {FLAT}\noffer a: {FLAT}")

    def test_bad_rule(self):
        for rule in ("", " ", "each", " a", "a ", "flat 5 from 9 to 0", "( a )", "( a roomy", "A", "offer a", "a  b"):
            self.refused(BadRule, f"offer z: {rule}")
            self.among(BadRule, f"offer z: {rule}")

    def test_no_offer(self):
        self.among(NoOffer, "offer z: y")
        self.among(NoOffer, "offer z: ( aq or ( y fee 3 ) )")
        self.refused(NoOffer, "offer z: y")

    def test_ring(self):
        self.among(Ring, "offer z: z")
        self.among(Ring, "offer z: ( aq plus ( z fee 3 ) )")
        self.among(Ring, "offer y: z\noffer z: y")
        self.refused(Ring, "offer a: b\noffer b: c\noffer c: a")

    def test_which_comes_first(self):
        faults = [
            (TooMany, many_lines(31)), (BadLine, ["offer"]), (BadName, [f"offer Oak: {FLAT}"]),
            (Twice, [f"offer twin: {FLAT}", f"offer fir: {FLAT}", f"offer twin: {FLAT}"]),
            (BadRule, ["offer elm: ( )"]), (NoOffer, ["offer ash: none"]), (Ring, ["offer oak: yew", "offer yew: oak"]),
        ]
        for many in range(1, 8):
            for chosen in itertools.combinations(faults, many):
                lines = [line for refusal, rows in chosen for line in rows]
                self.refused(chosen[0][0], "\n".join(lines))
                self.refused(chosen[0][0], "\n".join(lines[::-1]))

    def test_one_line_with_several(self):
        self.refused(BadLine, "offer Oak")
        self.refused(BadName, "offer Oak: ( )")
        self.refused(Twice, "offer a: ( )\noffer a: a")
        self.refused(BadRule, "offer a: ( a or each )")
        self.refused(NoOffer, "offer a: ( a or b )")
