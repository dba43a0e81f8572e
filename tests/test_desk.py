import re
import unittest

from helper import chance
from offerhouse.books import form_of, quote
from offerhouse.desk import Desk
from offerhouse.errors import (
    BadName, BadRule, Leaned, NoOffer, NotOffered, NothingBack, OfferError, Ring, TooMany,
)
from offerhouse.examiner import cheapest, paper_holds
from offerhouse.forms import cost_at
from offerhouse.house import joined
from offerhouse.reading import read_book

N = 10 ** 39 + 7
FLAT = "flat 5 from 0 to 9"
LONG = "( blocks 7 at 5 times 40 plus blocks 11 at 3 times 40 )"
# A form of 12 stretches, so that two such sellers are too many together and one is not.
TWELVE = "bands " + " ".join(f"{3 * k + 1}:{k * k + 1}" for k in range(12))


def many_names(many):
    letters = "abcdefghijklmnopqrstuvwxyz"
    return [letter + other for letter in letters for other in "qx"][:many]


def desk_of(*offers):
    desk = Desk()
    for name, text in offers:
        desk.put(name, text)
    return desk


class Refusing(unittest.TestCase):
    def told(self, desk):
        return (desk.names(), desk.text(), desk.deeds())

    def refused(self, refusal, desk, asked, *handed):
        """Refused with just this class, and nothing is changed."""
        ahead = self.told(desk)
        with self.assertRaises(refusal) as caught:
            asked(*handed)
        self.assertIs(type(caught.exception), refusal)
        self.assertEqual(self.told(desk), ahead)


class Put(Refusing):
    def test_nothing_yet(self):
        self.assertEqual(self.told(Desk()), ([], "", 0))

    def test_new_ones_come_last(self):
        desk = Desk()
        self.assertIsNone(desk.put("oak", FLAT))
        self.assertEqual(self.told(desk), (["oak"], f"offer oak: {FLAT}", 1))
        self.assertIsNone(desk.put("elm", "( oak fee 3 )"))
        self.assertEqual(self.told(desk), (["oak", "elm"], f"offer oak: {FLAT}\noffer elm: ( oak fee 3 )", 2))

    def test_replaced_in_its_place(self):
        desk = desk_of(("c", FLAT), ("a", "c"), ("b", "( a or c )"))
        desk.put("a", "each 3 from 0 to 4")
        self.assertEqual(self.told(desk), (
            ["c", "a", "b"], f"offer c: {FLAT}\noffer a: each 3 from 0 to 4\noffer b: ( a or c )", 4))
        desk.put("c", "( a fee 2 )")
        self.assertEqual(self.told(desk), (
            ["c", "a", "b"], "offer c: ( a fee 2 )\noffer a: each 3 from 0 to 4\noffer b: ( a or c )", 5))
        # The same once more is a deed as well.
        desk.put("c", "( a fee 2 )")
        self.assertEqual(desk.deeds(), 6)

    def test_bad_name(self):
        desk = desk_of(("a", FLAT))
        for name in ("", "A", "ninesigns", "each", "a b", "a1", " a"):
            self.refused(BadName, desk, desk.put, name, FLAT)
            self.refused(BadName, desk, desk.put, name, "( )")

    def test_bad_rule(self):
        desk = desk_of(("a", FLAT))
        for text in ("", "( )", "each", " a", "a ", "flat 5 from 9 to 0", "( a or b", "A", "flat -0 from 0 to 9"):
            self.refused(BadRule, desk, desk.put, "b", text)
            self.refused(BadRule, desk, desk.put, "a", text)

    def test_too_many(self):
        names = many_names(30)
        desk = desk_of(*[(name, FLAT) for name in names])
        self.assertEqual(desk.names(), names)
        self.refused(TooMany, desk, desk.put, "z", FLAT)
        desk.put(names[7], "each 1 from 0 to 2")
        self.assertEqual((desk.names(), desk.deeds()), (names, 31))
        desk.drop(names[3])
        desk.put("z", FLAT)
        self.assertEqual(desk.names(), names[:3] + names[4:] + ["z"])

    def test_a_form_that_is_too_long_may_be_put(self):
        desk = desk_of(("long", LONG))
        self.assertEqual(desk.text(), f"offer long: {LONG}")

    def test_no_offer(self):
        desk = desk_of(("a", FLAT))
        self.refused(NoOffer, desk, desk.put, "b", "c")
        self.refused(NoOffer, desk, desk.put, "b", "( a or ( c roomy ) )")
        self.refused(NoOffer, desk, desk.put, "a", "( b fee 3 )")

    def test_ring(self):
        desk = desk_of(("a", FLAT), ("b", "a"), ("c", "( b fee 3 )"))
        self.refused(Ring, desk, desk.put, "d", "d")
        self.refused(Ring, desk, desk.put, "a", "a")
        self.refused(Ring, desk, desk.put, "a", "b")
        self.refused(Ring, desk, desk.put, "a", "( each 1 from 0 to 2 or c )")
        desk.put("c", FLAT)
        desk.put("a", "( each 1 from 0 to 2 or c )")
        self.refused(Ring, desk, desk.put, "c", "b")

    def test_which_comes_first(self):
        desk = desk_of(*[(name, FLAT) for name in many_names(30)])
        self.refused(BadName, desk, desk.put, "Z", "( z")
        self.refused(BadName, desk, desk.put, "Z", FLAT)
        self.refused(BadRule, desk, desk.put, "z", "( z or none")
        self.refused(TooMany, desk, desk.put, "z", "none")
        self.refused(TooMany, desk, desk.put, "z", "z")
        self.refused(NoOffer, desk, desk.put, "aq", "( aq or none )")
        self.refused(Ring, desk, desk.put, "aq", "( aq or bq )")


class Drop(Refusing):
    def test_dropped(self):
        desk = desk_of(("a", FLAT), ("b", FLAT), ("c", "a"))
        self.assertIsNone(desk.drop("b"))
        self.assertEqual(self.told(desk), (["a", "c"], f"offer a: {FLAT}\noffer c: a", 4))
        desk.drop("c")
        desk.drop("a")
        self.assertEqual(self.told(desk), ([], "", 6))

    def test_put_again_it_comes_last(self):
        desk = desk_of(("a", FLAT), ("b", FLAT))
        desk.drop("a")
        desk.put("a", FLAT)
        self.assertEqual(desk.names(), ["b", "a"])

    def test_no_offer(self):
        desk = desk_of(("a", FLAT))
        for name in ("b", "", "A", "each"):
            self.refused(NoOffer, desk, desk.drop, name)
        desk.drop("a")
        self.refused(NoOffer, desk, desk.drop, "a")

    def test_leaned(self):
        desk = desk_of(("a", FLAT), ("b", "a"), ("c", "( b fee 3 )"))
        self.refused(Leaned, desk, desk.drop, "a")
        self.refused(Leaned, desk, desk.drop, "b")
        desk.drop("c")
        self.refused(Leaned, desk, desk.drop, "a")
        desk.put("b", FLAT)
        desk.drop("a")
        self.assertEqual(desk.names(), ["b"])
        # One that stands ahead may name it too.
        desk = desk_of(("b", FLAT), ("a", FLAT))
        desk.put("b", "( a only 0 to 3 )")
        self.refused(Leaned, desk, desk.drop, "a")


class Back(Refusing):
    def test_nothing_back(self):
        desk = Desk()
        self.refused(NothingBack, desk, desk.back)
        desk.put("a", FLAT)
        self.assertEqual(desk.back(), "a")
        self.refused(NothingBack, desk, desk.back)

    def test_a_new_one(self):
        desk = desk_of(("a", FLAT), ("b", "a"))
        self.assertEqual(desk.back(), "b")
        self.assertEqual(self.told(desk), (["a"], f"offer a: {FLAT}", 1))

    def test_a_replaced_one(self):
        desk = desk_of(("a", FLAT), ("b", "a"))
        ahead = self.told(desk)
        desk.put("a", "each 3 from 0 to 4")
        self.assertEqual(desk.back(), "a")
        self.assertEqual(self.told(desk), ahead)

    def test_a_dropped_one_comes_to_its_place(self):
        desk = desk_of(("a", FLAT), ("b", FLAT), ("c", FLAT))
        for name in ("a", "b", "c"):
            ahead = self.told(desk)
            desk.drop(name)
            self.assertEqual(desk.back(), name)
            self.assertEqual(self.told(desk), ahead)

    def test_through_all_deeds(self):
        desk = Desk()
        told = [self.told(desk)]
        names = []
        for deed, *handed in (
            (desk.put, "a", FLAT), (desk.put, "b", "a"), (desk.put, "a", "each 3 from 0 to 4"), (desk.drop, "b"),
            (desk.put, "c", "( a fee 1 )"), (desk.put, "b", "c"), (desk.put, "c", "a"), (desk.drop, "b"),
        ):
            deed(*handed)
            names.append(handed[0])
            told.append(self.told(desk))
        self.assertEqual(desk.deeds(), 8)
        while names:
            self.assertEqual(self.told(desk), told.pop())
            self.assertEqual(desk.back(), names.pop())
        self.assertEqual(self.told(desk), ([], "", 0))
        self.refused(NothingBack, desk, desk.back)

    def test_an_undone_deed_is_as_if_it_had_never_been(self):
        desk = desk_of(("a", FLAT), ("b", FLAT))
        desk.drop("a")
        desk.back()
        desk.put("c", "a")
        self.assertEqual((desk.names(), desk.deeds()), (["a", "b", "c"], 3))
        self.assertEqual([desk.back(), desk.back(), desk.back()], ["c", "b", "a"])

    def test_refused_deeds_are_no_deeds(self):
        desk = desk_of(("a", FLAT), ("b", "a"))
        self.refused(Leaned, desk, desk.drop, "a")
        self.refused(BadRule, desk, desk.put, "c", "( )")
        self.refused(Ring, desk, desk.put, "a", "b")
        self.assertEqual(desk.back(), "b")


class Model:
    """A desk as point 10 tells it, over texts alone."""

    def __init__(self):
        self.offers = []
        self.done = []

    def named_in(self, text):
        return set(re.findall(r"\b[a-e]\b", text))

    def reached(self, offers, name):
        texts = dict(offers)
        found, waiting = set(), [name]
        while waiting:
            for other in self.named_in(texts[waiting.pop()]) - found:
                found.add(other)
                waiting.append(other)
        return found

    def put(self, name, text):
        if name == "Bad":
            raise BadName
        if text == "( bad":
            raise BadRule
        names = [other for other, kept in self.offers]
        if not self.named_in(text) <= {*names, name}:
            raise NoOffer
        offers = [(other, text if other == name else kept) for other, kept in self.offers]
        offers = offers if name in names else offers + [(name, text)]
        if name in self.reached(offers, name):
            raise Ring
        self.done.append((name, self.offers))
        self.offers = offers

    def drop(self, name):
        if name not in [other for other, text in self.offers]:
            raise NoOffer
        if any(name in self.named_in(text) for other, text in self.offers):
            raise Leaned
        self.done.append((name, self.offers))
        self.offers = [(other, text) for other, text in self.offers if other != name]

    def back(self):
        if not self.done:
            raise NothingBack
        name, self.offers = self.done.pop()
        return name

    def told(self):
        text = "\n".join(f"offer {name}: {text}" for name, text in self.offers)
        return [name for name, rule in self.offers], text, len(self.done)


class ManyDeeds(Refusing):
    TEXTS = (FLAT, "each 3 from 0 to 4", "a", "b", "c", "( a plus b )", "( c or ( d fee 2 ) )", "( e roomy )", "( bad")

    def test_against_the_model(self):
        source = chance(131)
        seen = {}
        for _ in range(60):
            desk, model = Desk(), Model()
            for _ in range(60):
                deed = source.choice(("put", "put", "put", "drop", "back"))
                handed = [source.choice(("a", "b", "c", "d", "e", "Bad" if deed == "put" else "zz"))]
                handed = [] if deed == "back" else handed + [source.choice(self.TEXTS)] * (deed == "put")
                told, asked = self.outcome(desk, deed, handed), self.outcome(model, deed, handed)
                self.assertEqual(told, asked)
                self.assertEqual(self.told(desk), model.told())
                seen[asked] = seen.get(asked, 0) + 1
        for refusal in (BadName, BadRule, NoOffer, Ring, Leaned, NothingBack):
            self.assertGreater(seen[refusal], 10, refusal)

    def outcome(self, holder, deed, handed):
        try:
            return getattr(holder, deed)(*handed)
        except OfferError as e:
            return type(e)


class Lists(unittest.TestCase):
    def test_the_told_lists_may_be_changed(self):
        desk = desk_of(("a", FLAT), ("b", "each 3 from 0 to 9"))
        names = desk.names()
        self.assertIs(type(names), list)
        names.append("x")
        names.reverse()
        self.assertEqual(desk.names(), ["a", "b"])
        filled = desk.filled(["a", "b"], 7)
        kept = list(filled)
        self.assertIs(type(filled), list)
        filled.clear()
        self.assertEqual(desk.filled(["a", "b"], 7), kept)

    def test_the_list_handed_in_stays(self):
        desk = desk_of(("a", FLAT), ("b", "each 3 from 0 to 9"))
        names = ["a", "b", "a"]
        filled, paper = desk.filled(names, 7), desk.paper(names, 7)
        self.assertEqual(names, ["a", "b", "a"])
        names.clear()
        self.assertEqual((desk.filled(["a", "b", "a"], 7), desk.paper(["a", "b", "a"], 7)), (filled, paper))

    def test_two_desks_are_apart(self):
        one, other = Desk(), Desk()
        one.put("a", FLAT)
        self.assertEqual((other.names(), other.text(), other.deeds()), ([], "", 0))


class Orders(Refusing):
    OFFERS = (
        ("oak", "( each 2 from 0 to 9 fee 8 )"), ("elm", "each 4 from 0 to 6"), ("fir", "blocks 3 at 7 times 2"),
        ("mix", "( oak or ( elm after 1 ) )"), ("odd", "( flat 3 from 2 to 2 or flat 4 from 5 to 5 )"),
    )

    def check(self, desk, names, x):
        """Filled and paper, held against the joined form of the sellers' forms."""
        book = read_book(desk.text())
        forms = [form_of(book, name) for name in names]
        cost = cost_at(joined(forms), x)
        if cost is None:
            self.refused(NotOffered, desk, desk.filled, names, x)
            self.refused(NotOffered, desk, desk.paper, names, x)
            return
        told = desk.filled(names, x)
        self.assertIs(type(told), list)
        self.assertTrue(all(type(row) is tuple and len(row) == 3 for row in told))
        self.assertEqual([row[0] for row in told], names)
        shares = [row[1] for row in told]
        self.assertEqual([cost_at(form, share) for form, share in zip(forms, shares)], [row[2] for row in told])
        self.assertEqual(sum(shares), x)
        self.assertEqual(sum(row[2] for row in told), cost)
        self.assertTrue(cheapest(forms, shares))
        self.assertTrue(paper_holds(forms, shares, desk.paper(names, x)))

    def test_quote(self):
        desk = desk_of(*self.OFFERS)
        book = read_book(desk.text())
        for name in desk.names():
            for x in range(-2, 12):
                if cost_at(form_of(book, name), x) is None:
                    self.refused(NotOffered, desk, desk.quote, name, x)
                else:
                    self.assertEqual(desk.quote(name, x), quote(book, name, x))
        self.assertEqual([desk.quote("oak", x) for x in (0, 1, 9)], [0, 10, 26])
        self.assertEqual(desk.quote("mix", 3), 8)

    def test_quote_refused_in_its_order(self):
        desk = desk_of(("long", LONG), ("a", "( long only 0 to 3 )"), ("b", FLAT))
        self.refused(NoOffer, desk, desk.quote, "c", -1)
        self.refused(TooMany, desk, desk.quote, "long", -1)
        self.refused(TooMany, desk, desk.quote, "a", 2)
        self.refused(NotOffered, desk, desk.quote, "b", -1)

    def test_known(self):
        desk = desk_of(*self.OFFERS)
        self.assertEqual(desk.filled(["oak", "elm"], 11), [("oak", 9, 26), ("elm", 2, 8)])
        self.assertEqual(desk.filled(["elm", "oak"], 11), [("elm", 2, 8), ("oak", 9, 26)])
        self.assertEqual(desk.paper(["oak", "elm"], 11), ("price", 4))
        self.assertEqual(desk.filled(["odd", "odd"], 10), [("odd", 5, 4), ("odd", 5, 4)])

    def test_each_amount(self):
        desk = desk_of(*self.OFFERS)
        for names in (
            ["oak"], ["elm", "oak"], ["fir", "odd"], ["oak", "oak"], ["odd", "odd", "odd"], ["mix", "fir"],
            ["elm"] * 6, ["elm", "odd", "elm", "odd"], ["oak", "elm", "fir", "odd"],
        ):
            for x in range(-1, 30):
                self.check(desk, names, x)

    def test_both_kinds_of_paper(self):
        desk = desk_of(*self.OFFERS)
        kinds = {desk.paper(["oak", "elm"], x)[0] for x in range(16)}
        self.assertEqual(kinds, {"price", "bars"})

    def test_far(self):
        desk = desk_of(("a", f"( each 7 from 0 to {N} fee {N} )"), ("b", f"each 9 from 0 to {3 * N}"))
        for x in (0, 1, N // 2, N // 2 + 1, N, 2 * N, 4 * N, 4 * N + 1):
            self.check(desk, ["a", "b"], x)
            self.check(desk, ["b", "a", "b"], x)

    def test_refused_in_their_order(self):
        desk = desk_of(("long", LONG), ("a", "( long only 0 to 3 )"), ("b", FLAT), ("c", TWELVE))
        self.assertEqual(len(form_of(read_book(desk.text()), "c")), 12)
        for asked in (desk.filled, desk.paper):
            self.refused(NoOffer, desk, asked, ["x"], 0)
            self.refused(NoOffer, desk, asked, ["long", "x"], 0)
            self.refused(NoOffer, desk, asked, ["c", "c", "x"], -1)
            self.refused(NoOffer, desk, asked, ["x", "long"], -1)
            self.refused(TooMany, desk, asked, ["long"], 0)
            self.refused(TooMany, desk, asked, ["b", "a"], -1)
            self.refused(TooMany, desk, asked, ["c", "c"], 0)
            self.refused(TooMany, desk, asked, ["c", "b", "c"], -1)
            self.refused(NotOffered, desk, asked, ["c", "b"], -1)
            self.refused(NotOffered, desk, asked, ["b"], 10)
            self.refused(NotOffered, desk, asked, ["b"] * 6, 55)
        self.check(desk, ["c", "b"], 20)

    def test_a_deed_done_and_undone(self):
        desk = desk_of(*self.OFFERS)
        asked = [(["oak", "elm"], 11), (["odd", "odd"], 7), (["mix", "fir", "elm"], 13)]

        def all_told():
            orders = [(desk.filled(names, x), desk.paper(names, x)) for names, x in asked]
            return self.told(desk), orders, [desk.quote(name, 5) for name in desk.names()]

        ahead = all_told()
        for deed, *handed in (
            (desk.put, "elm", "each 1 from 0 to 9"), (desk.put, "new", FLAT), (desk.drop, "odd"), (desk.drop, "fir"),
        ):
            deed(*handed)
            self.assertNotEqual(self.told(desk), ahead[0])
            self.assertEqual(desk.back(), handed[0])
            self.assertEqual(all_told(), ahead)

    def test_what_is_told_hangs_on_the_book_alone(self):
        one = desk_of(*self.OFFERS)
        other = desk_of(("x", FLAT), *self.OFFERS[:2])
        other.put("elm", FLAT)
        other.drop("x")
        for name, text in self.OFFERS[1:]:
            other.put(name, text)
        self.assertEqual(one.text(), other.text())
        for names, x in ((["oak", "elm"], 11), (["mix", "fir", "elm"], 13), (["odd", "odd"], 7)):
            self.assertEqual(one.filled(names, x), other.filled(names, x))
            self.assertEqual(one.paper(names, x), other.paper(names, x))
