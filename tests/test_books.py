import itertools
import unittest

from helper import beside_ends, chance, costs_in, costs_of, form_from, forms_of, rule_of as made, some_offers
from offerhouse.books import Book, form_of, order_of, quote, rule_of, unlike_at
from offerhouse.errors import BadName, NoOffer, NotOffered, Ring, TooMany, Twice
from offerhouse.forms import cost_at, is_form
from offerhouse.reading import show_book

N = 10 ** 39 + 7
FLAT = ("Flat", 5, 0, 9)
EACH = ("Each", 3, 0, 9)
# Of more than 60 stretches, though neither of the two within it is.
LONG = ("Sum", ("Blocks", 7, 5, 40), ("Blocks", 11, 3, 40))
BAD_NAMES = ("", "Oak", "oak1", "ninesigns", "each", "to", "fee", "a b", " a", "a ", "a:", "-", "o_k")


def named(*names):
    """The sum of several names, as a tuple of the helper's kind."""
    spec = ("Named", names[0])
    for name in names[1:]:
        spec = ("Sum", ("Named", name), spec)
    return spec


def book_of(*offers):
    return Book([(name, made(spec)) for name, spec in offers])


def many_names(many):
    letters = "abcdefghijklmnopqrstuvwxyz"
    return [letter + other for letter in letters for other in "qx"][:many]


class Refusing(unittest.TestCase):
    def refused(self, refusal, asked, *handed):
        with self.assertRaises(refusal) as caught:
            asked(*handed)
        self.assertIs(type(caught.exception), refusal)


class Books(Refusing):
    def refused_book(self, refusal, *offers):
        self.refused(refusal, book_of, *offers)

    def test_no_offer(self):
        self.assertEqual(Book([]).offers, [])

    def test_thirty_and_more(self):
        for many in (1, 2, 29, 30):
            offers = [(name, made(FLAT)) for name in many_names(many)]
            self.assertEqual(Book(offers).offers, offers)
        for many in (31, 32, 45):
            self.refused(TooMany, Book, [(name, made(FLAT)) for name in many_names(many)])

    def test_names_that_are_none(self):
        for name in BAD_NAMES:
            self.refused_book(BadName, (name, FLAT))
            self.refused_book(BadName, ("a", FLAT), ("b", FLAT), (name, FLAT))
            self.refused_book(BadName, (name, FLAT), ("a", FLAT))

    def test_twice(self):
        self.refused_book(Twice, ("a", FLAT), ("a", FLAT))
        self.refused_book(Twice, ("a", FLAT), ("b", EACH), ("c", FLAT), ("b", FLAT))
        self.refused_book(Twice, *[("a", FLAT)] * 30)

    def test_a_name_that_no_offer_has(self):
        self.refused_book(NoOffer, ("a", named("b")))
        self.refused_book(NoOffer, ("a", FLAT), ("b", named("a", "c")))
        self.refused_book(NoOffer, ("a", FLAT), ("b", ("Fee", ("Roomy", ("Only", named("x"), 0, 5)), 3)))

    def test_rings(self):
        self.refused_book(Ring, ("a", named("a")))
        self.refused_book(Ring, ("a", ("Fee", ("Sum", FLAT, named("a")), 3)))
        self.refused_book(Ring, ("a", named("b")), ("b", named("a")))
        self.refused_book(Ring, ("a", FLAT), ("b", named("a", "c")), ("c", named("a", "d")), ("d", named("a", "b")))
        self.refused_book(Ring, ("x", FLAT), ("a", named("b", "x")), ("b", named("x", "b")))
        for many in (2, 3, 15, 30):
            names = many_names(many)
            self.refused_book(Ring, *[(name, named(behind)) for name, behind in zip(names, names[1:] + names[:1])])
            self.refused_book(Ring, *[(name, named(behind)) for name, behind in zip(names, names[-1:] + names[:-1])])

    def test_no_ring(self):
        offers = [("a", named("b", "c")), ("b", named("d")), ("c", named("d", "b")), ("d", FLAT)]
        for order in itertools.permutations(offers):
            self.assertEqual([name for name, rule in book_of(*order).offers], [name for name, spec in order])
        names = many_names(30)
        chain = [(name, named(behind)) for name, behind in zip(names, names[1:])] + [(names[-1], FLAT)]
        self.assertEqual(len(book_of(*chain).offers), 30)
        self.assertEqual(len(book_of(*chain[::-1]).offers), 30)

    def test_which_comes_first(self):
        faults = [
            (TooMany, [(name, FLAT) for name in many_names(31)]), (BadName, [("Oak", FLAT)]),
            (Twice, [("twin", FLAT), ("fir", FLAT), ("twin", FLAT)]), (NoOffer, [("elm", named("ash"))]),
            (Ring, [("oak", named("yew")), ("yew", named("oak"))]),
        ]
        for many in range(1, 6):
            for chosen in itertools.combinations(faults, many):
                ahead = [offer for refusal, offers in chosen for offer in offers]
                for offers in (ahead, ahead[::-1]):
                    self.refused_book(chosen[0][0], *offers)

    def test_one_offer_with_several_faults(self):
        self.refused_book(BadName, ("Oak", named("ash")))
        self.refused_book(Twice, ("oak", named("oak")), ("oak", named("ash")))
        self.refused_book(NoOffer, ("oak", named("oak", "ash")))

    def test_the_list_is_its_own(self):
        offers = [("a", made(FLAT)), ("b", made(named("a")))]
        kept = list(offers)
        book = Book(offers)
        self.assertIs(type(book.offers), list)
        self.assertIsNot(book.offers, offers)
        self.assertEqual(offers, kept)
        offers.append(("c", made(FLAT)))
        offers[0] = ("x", made(EACH))
        self.assertEqual(book.offers, kept)
        self.assertEqual(order_of(book, "b"), ["a", "b"])
        self.assertEqual(show_book(book), "offer a: flat 5 from 0 to 9\noffer b: a")

    def test_what_is_done_to_the_field_changes_nothing_told(self):
        book, other = book_of(("a", FLAT), ("b", named("a"))), book_of(("a", FLAT), ("b", named("a")))
        self.assertIsNot(book.offers, other.offers)
        book.offers.clear()
        self.assertEqual(quote(book, "b", 3), 5)
        self.assertEqual(show_book(book), show_book(other))
        self.assertEqual(len(other.offers), 2)


class RuleOf(Refusing):
    def test_the_rule(self):
        offers = [("a", made(FLAT)), ("b", made(named("a"))), ("c", made(EACH))]
        book = Book(offers)
        for name, rule in offers:
            self.assertEqual(rule_of(book, name).written(), rule.written())

    def test_no_offer(self):
        for name in ("b", "", "A", "aa", "each"):
            self.refused(NoOffer, rule_of, book_of(("a", FLAT)), name)
            self.refused(NoOffer, rule_of, Book([]), name)


class OrderOf(Refusing):
    def check(self, book, name, asked):
        told = order_of(book, name)
        self.assertIs(type(told), list)
        self.assertEqual(told, asked)
        told.append("x")
        told.reverse()
        self.assertEqual(order_of(book, name), asked)

    def test_one_that_names_none(self):
        self.check(book_of(("a", FLAT)), "a", ["a"])
        self.check(book_of(("a", FLAT), ("b", FLAT)), "b", ["b"])

    def test_chains(self):
        names = many_names(30)
        chain = [(name, named(behind)) for name, behind in zip(names, names[1:])] + [(names[-1], FLAT)]
        for offers in (chain, chain[::-1]):
            book = book_of(*offers)
            for place, name in enumerate(names):
                self.check(book, name, names[place:][::-1])

    def test_ascending(self):
        book = book_of(("top", named("c", "a", "b")), ("c", FLAT), ("b", FLAT), ("a", FLAT))
        self.check(book, "top", ["a", "b", "c", "top"])

    def test_one_that_is_needed_by_several(self):
        book = book_of(("a", named("b", "c")), ("b", named("d")), ("c", named("d", "b")), ("d", FLAT), ("e", EACH))
        self.check(book, "a", ["d", "b", "c", "a"])
        self.check(book, "c", ["d", "b", "c"])
        self.check(book, "b", ["d", "b"])
        book = book_of(("a", named("b", "c")), ("b", named("z", "d")), ("c", named("e", "d")), ("d", FLAT), ("e", EACH),
                       ("z", named("e")))
        self.check(book, "a", ["d", "e", "z", "b", "c", "a"])
        self.check(book, "c", ["d", "e", "c"])

    def test_depth_ahead_of_breadth(self):
        # All that is needed for b comes ahead of c, though c is named by the offer itself.
        book = book_of(("a", named("b", "c")), ("b", named("y", "z")), ("c", FLAT), ("y", named("z")), ("z", FLAT))
        self.check(book, "a", ["z", "y", "b", "c", "a"])

    def test_no_offer(self):
        self.refused(NoOffer, order_of, book_of(("a", FLAT)), "b")
        self.refused(NoOffer, order_of, Book([]), "a")


class FormsAndCosts(Refusing):
    def test_known(self):
        book = book_of(("a", FLAT), ("b", ("Fee", named("a"), 2)), ("c", named("a", "b")))
        self.assertEqual(form_of(book, "a"), ((0, 9, 5, 0),))
        self.assertEqual(form_of(book, "b"), ((0, 1, 5, 2), (2, 9, 7, 0)))
        self.assertEqual(form_of(book, "c"), ((0, 1, 10, 2), (2, 9, 12, 0)))
        self.assertEqual([quote(book, "c", x) for x in (0, 1, 2, 9)], [10, 12, 12, 12])

    def test_one_by_one(self):
        source = chance(121)
        for _ in range(200):
            offers = some_offers(source, source.randrange(1, 7))
            forms = forms_of(offers)
            shuffled = source.sample(offers, len(offers))
            book = book_of(*shuffled)
            for name in forms:
                self.check(book, name, forms[name])

    def check(self, book, name, asked):
        told = form_of(book, name)
        self.assertIs(type(told), tuple)
        self.assertTrue(is_form(told))
        self.assertEqual(told, asked)
        for x in beside_ends(asked) + [-N, N]:
            cost = cost_at(asked, x)
            if cost is None:
                self.refused(NotOffered, quote, book, name, x)
            else:
                self.assertEqual(quote(book, name, x), cost)

    def test_far(self):
        book = book_of(("a", ("Each", N, 5, N)), ("b", ("Fee", ("After", named("a"), N), -N)), ("c", named("a", "b")))
        self.assertEqual(form_of(book, "b"), ((N + 5, 2 * N, 5 * N - N, N),))
        self.assertEqual(quote(book, "b", 2 * N), N * N - N)
        self.refused(NotOffered, quote, book, "b", 2 * N + 1)
        self.refused(NotOffered, quote, book, "b", N + 4)
        self.refused(NotOffered, quote, book, "c", N)

    def test_chain_of_thirty(self):
        names = many_names(30)
        chain = [(name, ("Fee", named(behind), 1)) for name, behind in zip(names, names[1:])] + [(names[-1], EACH)]
        book = book_of(*chain)
        self.assertEqual(quote(book, names[0], 9), 27 + 29)
        self.assertEqual(quote(book, names[0], 0), 0)

    def test_too_many(self):
        book = book_of(("long", LONG), ("a", FLAT), ("b", ("Only", named("long"), 0, 3)), ("c", named("a", "b")))
        for name in ("long", "b", "c"):
            self.refused(TooMany, form_of, book, name)
            for x in (0, -1, N):
                self.refused(TooMany, quote, book, name, x)
        self.assertEqual(quote(book, "a", 3), 5)
        self.refused(NotOffered, quote, book, "a", 10)

    def test_sixty_stretches_are_not_too_many(self):
        sixty = ("Cheaper", ("Blocks", 5, 7, 40), ("After", ("Blocks", 5, 7, 20), 1000))
        book = book_of(("a", sixty), ("b", named("a")))
        self.assertEqual(len(form_of(book, "b")), len(form_from(costs_of(sixty, {}))))
        self.assertLessEqual(len(form_of(book, "b")), 60)

    def test_no_offer_first(self):
        book = book_of(("long", LONG))
        for name in ("b", "", "each"):
            self.refused(NoOffer, form_of, book, name)
            self.refused(NoOffer, quote, book, name, 0)
            self.refused(NoOffer, quote, book, name, -N)


class UnlikeAt(Refusing):
    def check(self, book, other, name, asked):
        for told in (unlike_at(book, other, name), unlike_at(other, book, name)):
            self.assertEqual(told, asked)

    def test_the_same(self):
        one = book_of(("a", ("Each", 5, 0, 9)))
        other = book_of(("b", FLAT), ("a", ("Cheaper", ("Each", 5, 0, 4), ("Each", 5, 3, 9))))
        self.check(one, other, "a", None)
        self.check(one, one, "a", None)

    def test_other_costs_and_amounts(self):
        one = book_of(("a", ("Each", 5, 0, 9)))
        self.check(one, book_of(("a", ("Each", 5, 0, 8))), "a", 9)
        self.check(one, book_of(("a", ("Each", 5, 1, 9))), "a", 0)
        self.check(one, book_of(("a", ("Each", 6, 0, 9))), "a", 1)
        self.check(one, book_of(("a", ("Fee", ("Each", 5, 0, 9), 1))), "a", 1)
        self.check(one, book_of(("a", ("Bands", [(6, 5), (9, 4)]))), "a", 7)
        self.check(one, book_of(("a", ("Each", 5, 0, N))), "a", 10)

    def test_through_names(self):
        one = book_of(("a", named("b")), ("b", FLAT))
        self.check(one, book_of(("a", named("c")), ("c", FLAT)), "a", None)
        self.check(one, book_of(("a", named("b")), ("b", ("Flat", 5, 2, 9))), "a", 0)

    def test_some(self):
        source = chance(122)
        for _ in range(200):
            one, other = some_offers(source, 4), some_offers(source, 4)
            mine, yours = forms_of(one), forms_of(other)
            for name in set(mine) & set(yours):
                costs = (costs_in(mine[name]), costs_in(yours[name]))
                apart = [x for x in {**costs[0], **costs[1]} if costs[0].get(x) != costs[1].get(x)]
                self.check(book_of(*one), book_of(*other), name, min(apart, default=None))

    def test_no_offer(self):
        one, other = book_of(("a", FLAT), ("b", FLAT)), book_of(("b", FLAT), ("c", FLAT))
        for name in ("a", "c", "d"):
            self.refused(NoOffer, unlike_at, one, other, name)
            self.refused(NoOffer, unlike_at, other, one, name)

    def test_no_offer_ahead_of_too_many(self):
        one, other = book_of(("a", LONG), ("b", LONG)), book_of(("b", FLAT))
        self.refused(NoOffer, unlike_at, one, other, "a")
        self.refused(NoOffer, unlike_at, other, one, "a")
        self.refused(TooMany, unlike_at, one, other, "b")
        self.refused(TooMany, unlike_at, other, one, "b")
        self.refused(TooMany, unlike_at, one, one, "a")


class NothingChanged(unittest.TestCase):
    def test_the_books_stay(self):
        book, other = book_of(("a", FLAT), ("b", named("a"))), book_of(("a", EACH), ("b", named("a")))
        kept = [list(book.offers), list(other.offers), show_book(book), show_book(other)]
        for asked in (
            lambda: rule_of(book, "b").written(), lambda: order_of(book, "b"), lambda: form_of(book, "b"),
            lambda: quote(book, "b", 3), lambda: unlike_at(book, other, "b"),
        ):
            self.assertEqual(asked(), asked())
        self.assertEqual([book.offers, other.offers, show_book(book), show_book(other)], kept)
