import itertools
import unittest

from helper import bars_bar, chance, costs_in, far_form, long_form, sellers_of, shown_at
from offerhouse.errors import NotOffered, TooMany
from offerhouse.examiner import cheapest, paper_holds
from offerhouse.house import cost_of, joined, shares_at
from offerhouse.papers import paper_for, shares_shown

N = 10 ** 39 + 7
FORM = ((-4, -1, 9, -3), (0, 0, 7, 0), (2, 4, 1, 5), (5, 6, 0, 0), (9, 9, -8, 0))
# The quotients beside 2 are 9/2 and 0: no price shows it.
BARRED = ((0, 0, 0, 0), (2, 2, 9, 0), (4, 4, 9, 0))


class Refusing(unittest.TestCase):
    def refused(self, refusal, asked, *handed):
        with self.assertRaises(refusal):
            asked(*handed)


class Prices(Refusing):
    def test_one_beside_the_bounds(self):
        # The quotients beside 2 are 3/2 and 3.
        form = ((0, 0, 0, 0), (2, 2, 3, 0), (5, 5, 12, 0))
        for p, asked in ((1, False), (2, True), (3, True), (4, False), (-N, False), (N, False)):
            self.assertIs(paper_holds([form], [2], ("price", p)), asked)

    def test_all_sellers_are_shown(self):
        forms = [((0, 9, 0, 3),), ((0, 9, 0, 5),)]
        for p in range(9):
            self.assertIs(paper_holds(forms, [9, 0], ("price", p)), 3 <= p <= 5)
            self.assertIs(paper_holds(forms, [0, 9], ("price", p)), False)
            self.assertIs(paper_holds(forms, [9, 4], ("price", p)), p == 5)

    def test_no_seller(self):
        self.assertIs(paper_holds([], [], ("price", 5)), True)
        self.assertIs(paper_holds([], [], ("bars", 0, 0, 0, 1)), False)

    def test_one_by_one(self):
        source = chance(111)
        for _ in range(200):
            forms = [form for form in sellers_of(source, 4) if form]
            shares = [source.choice(sorted(costs_in(form))) for form in forms]
            for p in range(-12, 13):
                asked = all(shown_at(costs_in(form), x, p) for form, x in zip(forms, shares))
                self.assertIs(paper_holds(forms, shares, ("price", p)), asked)

    def test_far(self):
        forms = [((-N, N, 5, -3), (N + 2, 2 * N, 9 * N, 4)), ((0, N, 0, -3),)]
        self.assertIs(paper_holds(forms, [7, 9], ("price", -3)), True)
        self.assertIs(paper_holds(forms, [7, 9], ("price", -2)), False)
        self.assertIs(paper_holds(forms, [7, 9], ("price", -4)), False)


class Bars(Refusing):
    def test_known(self):
        self.assertIs(paper_holds([BARRED], [2], ("bars", 0, 0, 0, 4)), True)

    def test_exchanged(self):
        # y and z in one another's place, or the share in theirs.
        for y, z in ((4, 0), (2, 4), (0, 2), (2, 2), (0, 0), (4, 4), (2, 0), (4, 2)):
            self.assertIs(paper_holds([BARRED], [2], ("bars", 0, y, 0, z)), False, (y, z))

    def test_not_offered_amounts(self):
        for y, z in ((1, 4), (-1, 4), (-N, 4), (0, 3), (0, 5), (0, N), (1, 3)):
            self.assertIs(paper_holds([BARRED], [2], ("bars", 0, y, 0, z)), False, (y, z))

    def test_sellers_that_there_are_not(self):
        for k, j in ((1, 0), (0, 1), (-1, 0), (0, -1), (-1, -1), (N, 0), (0, -N), (2, 2)):
            self.assertIs(paper_holds([BARRED], [2], ("bars", k, 0, j, 4)), False, (k, j))
        for k, j in ((0, 2), (2, 1), (-1, 1), (0, -2), (-2, -1)):
            self.assertIs(paper_holds([BARRED, BARRED], [2, 2], ("bars", k, 0, j, 4)), False, (k, j))
        for k, j in itertools.product((0, 1), (0, 1)):
            self.assertIs(paper_holds([BARRED, BARRED], [2, 2], ("bars", k, 0, j, 4)), True, (k, j))

    def test_a_whole_price_between(self):
        # The quotients: dear/2 from below, and 6/2 from above.
        for dear, asked in ((4, False), (5, False), (6, False), (7, True), (8, True)):
            form = ((0, 0, 0, 0), (2, 2, dear, 0), (4, 4, dear + 6, 0))
            self.assertIs(paper_holds([form], [2], ("bars", 0, 0, 0, 4)), asked, dear)
        # No whole number lies between 3/2 and 7/4, nor between 3/2 and 3/2; 2 is just at one of them.
        pairs = ((3, 7, True), (3, 6, True), (3, 8, False), (4, 8, False), (4, 7, True), (5, 12, False))
        for first, last, asked in pairs:
            form = ((0, 0, 0, 0), (2, 2, first, 0), (6, 6, first + last, 0))
            self.assertIs(paper_holds([form], [2], ("bars", 0, 0, 0, 6)), asked, (first, last))
            low = ((0, 0, 0, 0), (2, 2, first, 0))
            high = ((0, 0, 0, 0), (4, 4, last, 0))
            self.assertIs(paper_holds([low, high], [2, 0], ("bars", 0, 0, 1, 4)), asked, (first, last))

    def test_below_nought(self):
        for first, last, asked in ((-3, -7, True), (-3, -6, True), (-2, -4, False), (-3, -4, False), (-3, -8, True)):
            form = ((0, 0, 0, 0), (2, 2, first, 0), (6, 6, first + last, 0))
            self.assertIs(paper_holds([form], [2], ("bars", 0, 0, 0, 6)), asked, (first, last))

    def test_one_by_one(self):
        source = chance(112)
        told = {True: 0, False: 0}
        for _ in range(300):
            forms = [form for form in sellers_of(source, 3) if len(form) > 1]
            shares = [source.choice(sorted(costs_in(form))) for form in forms]
            all_costs = [costs_in(form) for form in forms]
            sellers = range(-1, len(forms) + 1)
            for k, j in itertools.product(sellers, sellers):
                for y, z in itertools.product(range(-3, 6), range(-3, 6)):
                    asked = bars_bar(all_costs, shares, k, y, j, z)
                    self.assertIs(paper_holds(forms, shares, ("bars", k, y, j, z)), asked)
                    told[asked] += 1
        self.assertGreater(min(told.values()), 100, told)

    def test_far(self):
        form = ((-N, N, 5, 3), (2 * N, 2 * N, 5 + 9 * N, 0))
        # The quotients are 3 and, to the last amount, 3 too; one less for it leaves no whole price.
        self.assertIs(paper_holds([form], [0], ("bars", 0, -N, 0, 2 * N)), False)
        form = ((-N, N, 5, 3), (2 * N, 2 * N, 5 + 9 * N - 1, 0))
        self.assertIs(paper_holds([form], [0], ("bars", 0, -N, 0, 2 * N)), True)
        self.assertIs(paper_holds([form], [0], ("bars", 0, -1, 0, 2 * N)), True)
        self.assertIs(paper_holds([form], [0], ("bars", 0, -1, 0, N)), False)


class NotOfferedAheadOfAll(Refusing):
    def test_refused(self):
        for paper in (("price", 0), ("price", N), ("bars", 0, 0, 0, 4), ("bars", 7, 0, -3, 4), ("bars", 0, 4, 0, 0)):
            self.refused(NotOffered, paper_holds, [BARRED], [1], paper)
            self.refused(NotOffered, paper_holds, [()], [0], paper)
            self.refused(NotOffered, paper_holds, [BARRED, FORM], [2, 1], paper)
            self.refused(NotOffered, paper_holds, [FORM, BARRED], [1, 2], paper)
            self.refused(NotOffered, paper_holds, [BARRED, FORM, ()], [2, 0, 0], paper)


class Cheapest(Refusing):
    def test_no_seller(self):
        self.assertIs(cheapest([], []), True)

    def test_known(self):
        forms = [((0, 9, 0, 3),), ((0, 9, 0, 5),)]
        self.assertIs(cheapest(forms, [5, 0]), True)
        self.assertIs(cheapest(forms, [9, 4]), True)
        self.assertIs(cheapest(forms, [4, 1]), False)
        self.assertIs(cheapest(forms, [0, 9]), False)
        self.assertIs(cheapest([BARRED], [2]), True)

    def test_one_by_one(self):
        source = chance(113)
        told = {True: 0, False: 0}
        for _ in range(150):
            forms = [form for form in sellers_of(source, 4) if form]
            all_costs = [costs_in(form) for form in forms]
            costs = {}
            for shares in itertools.product(*all_costs):
                cost = sum(here[x] for here, x in zip(all_costs, shares))
                costs[sum(shares)] = min(cost, costs.get(sum(shares), cost))
            for shares in itertools.product(*all_costs):
                asked = sum(here[x] for here, x in zip(all_costs, shares)) == costs[sum(shares)]
                self.assertIs(cheapest(forms, list(shares)), asked)
                told[asked] += 1
                self.check_shown(forms, list(shares), asked)
        self.assertGreater(min(told.values()), 500, told)

    def check_shown(self, forms, shares, is_cheapest):
        """Shares that some unit price shows are cheapest."""
        low, high = shares_shown(forms, shares)
        if low is None or high is None or low <= high:
            self.assertTrue(is_cheapest)
            self.assertEqual(paper_for(forms, shares)[0], "price")

    def test_far(self):
        source = chance(114)
        for _ in range(40):
            forms = [far_form(source, 3) for _ in range(3)]
            shares = [source.choice(form)[source.randrange(2)] for form in forms]
            best = shares_at(forms, sum(shares))
            self.assertIs(cheapest(forms, best), True)
            self.assertIs(cheapest(forms, shares), cost_of(forms, shares) == cost_of(forms, best))
            if paper_for(forms, shares)[0] == "price":
                self.assertIs(cheapest(forms, shares), True)

    def test_too_many_ahead_of_not_offered(self):
        for shares in ([0, 0], [2, 0], [0, 2], [-1, -1]):
            self.refused(TooMany, cheapest, [long_form(11), long_form(10)], shares)
            self.refused(TooMany, cheapest, [long_form(101), long_form(1)], shares)
        self.refused(TooMany, joined, [long_form(11), long_form(10)])
        self.assertIs(cheapest([long_form(10), long_form(10)], [0, 0]), True)
        self.refused(NotOffered, cheapest, [long_form(10), long_form(10)], [2, 0])

    def test_not_offered(self):
        self.refused(NotOffered, cheapest, [FORM], [1])
        self.refused(NotOffered, cheapest, [FORM, FORM], [0, 1])
        self.refused(NotOffered, cheapest, [()], [0])
        self.refused(NotOffered, cheapest, [long_form(1000), (), long_form(1000)], [0, 0, 0])


class NothingChanged(unittest.TestCase):
    def test_what_is_handed_in_stays(self):
        forms, shares = [BARRED, FORM, ((0, 3, 1, 2),)], [2, 9, 1]
        kept = (list(forms), list(shares))
        for asked in (
            lambda: paper_holds(forms, shares, ("price", 3)), lambda: cheapest(forms, shares),
            lambda: paper_holds(forms, shares, ("bars", 0, 0, 0, 4)),
        ):
            told = asked()
            self.assertEqual((forms, shares), kept)
            self.assertEqual(asked(), told)
