import itertools
import math
import unittest
from fractions import Fraction

from helper import (
    FAR_FORM, bars_bar, beside_ends, chance, costs_in, far_form, far_gain, form_from, long_form, sellers_of, shown_at,
    small_forms,
)
from offerhouse.errors import NotOffered
from offerhouse.examiner import paper_holds
from offerhouse.forms import cost_at
from offerhouse.papers import paper_for, prices_at, shares_shown, shows

N = 10 ** 39 + 7
FORM = ((-4, -1, 9, -3), (0, 0, 7, 0), (2, 4, 1, 5), (5, 6, 0, 0), (9, 9, -8, 0))
SMALL = [form for form in small_forms(4, (None, 0, 1, 3)) + [FORM] if form]


def some_forms(source, many):
    for _ in range(many):
        slope = source.randrange(-3, 4)
        costs = {x: source.randrange(9) + x * slope for x in range(-5, 7) if source.randrange(3)}
        if costs:
            yield form_from(costs)


def prices_of(costs, x):
    """The pair of point 8's prices_at, quotient by quotient."""
    lows = [math.ceil(Fraction(costs[x] - costs[y], x - y)) for y in costs if y < x]
    highs = [math.floor(Fraction(costs[z] - costs[x], z - x)) for z in costs if z > x]
    return max(lows, default=None), min(highs, default=None)


def shown_of(all_costs, shares):
    pairs = [prices_of(costs, x) for costs, x in zip(all_costs, shares)]
    lows = [low for low, high in pairs if low is not None]
    highs = [high for low, high in pairs if high is not None]
    return max(lows, default=None), min(highs, default=None)


def some_shares(source, forms):
    return [source.choice(sorted(costs_in(form))) for form in forms]


class Refusing(unittest.TestCase):
    def refused(self, asked, *handed):
        with self.assertRaises(NotOffered):
            asked(*handed)


class Shows(Refusing):
    def test_at_the_bounds(self):
        # 0 and 2 and 5 cost 0, 3 and 12: the quotients beside 2 are 3/2 and 3.
        form = ((0, 0, 0, 0), (2, 2, 3, 0), (5, 5, 12, 0))
        self.assertEqual([shows(form, 2, p) for p in (0, 1, 2, 3, 4, N)], [False, False, True, True, False, False])
        self.assertEqual([shows(form, 0, p) for p in (-N, 0, 1, 2, N)], [True, True, True, False, False])
        self.assertEqual([shows(form, 5, p) for p in (-N, 2, 3, 4, N)], [False, False, True, True, True])

    def test_along_a_stretch(self):
        form = ((0, 9, 4, 3),)
        for x in range(10):
            self.assertIs(shows(form, x, 3), True)
            self.assertIs(shows(form, x, 2), x == 0)
            self.assertIs(shows(form, x, 4), x == 9)

    def test_one_by_one(self):
        for form in SMALL + list(some_forms(chance(91), 200)):
            costs = costs_in(form)
            for x in costs:
                for p in range(-9, 10):
                    self.assertIs(shows(form, x, p), shown_at(costs, x, p), (form, x, p))

    def test_far(self):
        source = chance(92)
        for form in [FAR_FORM] + [far_form(source, source.randrange(1, 7)) for _ in range(40)]:
            prices = {near for row in form for near in (row[3] - 1, row[3], row[3] + 1)}
            for x in beside_ends(form):
                if cost_at(form, x) is None:
                    self.refused(shows, form, x, 0)
                    continue
                for p in prices:
                    self.assertIs(shows(form, x, p), p * x - cost_at(form, x) == far_gain(form, p))

    def test_not_offered(self):
        for p in (-5, 0, N):
            self.refused(shows, (), 0, p)
            self.refused(shows, FORM, 1, p)
            self.refused(shows, FORM, -5, p)
            self.refused(shows, FORM, 10, p)


class PricesAt(Refusing):
    def check(self, form, x, asked):
        told = prices_at(form, x)
        self.assertIs(type(told), tuple)
        self.assertEqual(told, asked, (form, x))

    def test_none(self):
        self.check(((4, 4, 7, 0),), 4, (None, None))
        self.check(((4, 6, 7, 2),), 4, (None, 2))
        self.check(((4, 6, 7, 2),), 5, (2, 2))
        self.check(((4, 6, 7, 2),), 6, (2, None))

    def test_quotients(self):
        for last, low, high in ((4, 2, 2), (5, 3, 2), (6, 3, 3), (-4, -2, -2), (-5, -2, -3), (-6, -3, -3), (1, 1, 0)):
            self.check(((0, 0, 0, 0), (2, 2, last, 0)), 2, (low, None))
            self.check(((0, 0, 0, 0), (2, 2, last, 0)), 0, (None, high))

    def test_a_low_above_the_high(self):
        self.check(((0, 0, 0, 0), (2, 2, 9, 0), (4, 4, 9, 0)), 2, (5, 0))
        self.check(((0, 0, 0, 0), (2, 2, 3, 0), (4, 4, 6, 0)), 2, (2, 1))
        self.check(((0, 0, 0, 0), (2, 2, 4, 0), (4, 4, 8, 0)), 2, (2, 2))

    def test_one_by_one(self):
        for form in SMALL + list(some_forms(chance(93), 400)):
            costs = costs_in(form)
            for x in costs:
                self.check(form, x, prices_of(costs, x))

    def test_held_against_shows(self):
        for form in list(some_forms(chance(94), 100)):
            for x in costs_in(form):
                low, high = prices_at(form, x)
                for p in range(-20, 21):
                    here = (low is None or low <= p) and (high is None or p <= high)
                    self.assertIs(shows(form, x, p), here)

    def test_far(self):
        n = 10 ** 40 - 1
        self.check(((-n, n, n, -3),), 0, (-3, -3))
        # At n it costs -5 * n, and nothing from n + 1 on.
        self.check(((-n, n, n, -3), (n + 1, 2 * n, 0, 0)), n, (-3, 5))
        source = chance(95)
        for _ in range(60):
            form = far_form(source, source.randrange(1, 7))
            for x in beside_ends(form):
                if cost_at(form, x) is None:
                    self.refused(prices_at, form, x)
                else:
                    self.check_far(form, x)

    def check_far(self, form, x):
        """The bounds show the amount, the prices one beside them do not; where they cross, none between shows it."""
        low, high = prices_at(form, x)
        self.assertEqual((low is None, high is None), (form[0][0] == x, form[-1][1] == x))
        if low is not None and high is not None and low > high:
            for p in {low, high, (low + high) // 2, low + 1, high - 1}:
                self.assertFalse(shows(form, x, p))
            return
        for bound, beside in ((low, -1), (high, 1)):
            if bound is not None:
                self.assertTrue(shows(form, x, bound))
                self.assertFalse(shows(form, x, bound + beside))

    def test_far_quotients(self):
        for share in (0, 1, 5 * 10 ** 20):
            form = ((-N, -N, 0, 0), (share, share, 7, 0), (3 * N, 3 * N, N * N, 0))
            costs = {-N: 0, share: 7, 3 * N: N * N}
            self.check(form, share, prices_of(costs, share))
            self.check(form, -N, prices_of(costs, -N))
            self.check(form, 3 * N, prices_of(costs, 3 * N))

    def test_long(self):
        form = long_form(1000)
        costs = costs_in(form)
        for x in (0, 1, 3, 1500, 2997, 2998):
            self.check(form, x, prices_of(costs, x))

    def test_not_offered(self):
        for form, x in (((), 0), (FORM, 1), (FORM, -5), (FORM, 10), (FORM, 7), (FAR_FORM, 6)):
            self.refused(prices_at, form, x)


class SharesShown(Refusing):
    def check(self, forms, shares, asked):
        told = shares_shown(forms, shares)
        self.assertIs(type(told), tuple)
        self.assertEqual(told, asked, (forms, shares))

    def test_no_seller(self):
        self.check([], [], (None, None))

    def test_one_seller(self):
        for form in SMALL:
            for x in costs_in(form):
                self.check([form], [x], prices_at(form, x))

    def test_no_bound(self):
        one, line = ((4, 4, 7, 0),), ((0, 9, 0, 3),)
        self.check([one] * 6, [4] * 6, (None, None))
        self.check([one, line], [4, 0], (None, 3))
        self.check([line, one], [9, 4], (3, None))
        self.check([line, one, line], [9, 4, 0], (3, 3))
        self.check([line, ((0, 9, 0, 5),)], [9, 9], (5, None))
        self.check([line, ((0, 9, 0, 5),)], [0, 0], (None, 3))
        self.check([line, ((0, 9, 0, 5),)], [0, 9], (5, 3))

    def test_some(self):
        source = chance(96)
        for _ in range(400):
            forms = [form for form in sellers_of(source, 6) if form]
            shares = some_shares(source, forms)
            self.check(forms, shares, shown_of([costs_in(form) for form in forms], shares))

    def test_not_offered(self):
        for asked in (shares_shown, paper_for):
            self.refused(asked, [()], [0])
            self.refused(asked, [FORM, ()], [0, 0])
            self.refused(asked, [FORM, FORM], [0, 1])
            self.refused(asked, [FORM, FORM], [1, 0])
            self.refused(asked, [FORM] * 6, [0, 2, 3, 4, 5, 8])


class PaperFor(Refusing):
    def check(self, forms, shares):
        told = paper_for(forms, shares)
        self.assertIs(type(told), tuple)
        self.assertTrue(all(type(part) is int for part in told[1:]))
        all_costs = [costs_in(form) for form in forms]
        if told[0] == "price":
            self.assertEqual(len(told), 2)
            self.assertTrue(all(shown_at(costs, x, told[1]) for costs, x in zip(all_costs, shares)), (forms, shares))
        else:
            self.assertEqual((told[0], len(told)), ("bars", 5))
            self.assertTrue(bars_bar(all_costs, shares, *told[1:]), (forms, shares))
        self.assertIs(paper_holds(forms, shares, told), True)
        return told

    def test_no_seller(self):
        self.assertEqual(self.check([], [])[0], "price")

    def test_known(self):
        self.assertEqual(self.check([((0, 9, 4, 3),)], [5]), ("price", 3))
        self.assertEqual(self.check([((0, 9, 4, 3),), ((0, 9, 0, 5),)], [0, 9])[0], "bars")
        # No price shows the middle one: the bars are both of one seller.
        self.assertEqual(self.check([((0, 0, 0, 0), (2, 2, 9, 0), (4, 4, 9, 0))], [2]), ("bars", 0, 0, 0, 4))
        self.assertEqual(self.check([((0, 0, 0, 0), (2, 2, 3, 0), (4, 4, 6, 0))], [2]), ("bars", 0, 0, 0, 4))

    def test_bars_of_two_sellers(self):
        forms = [((5, 5, 1, 0),), ((0, 0, 0, 0), (3, 3, 30, 0)), ((0, 0, 0, 0), (4, 4, 8, 0))]
        self.assertEqual(self.check(forms, [5, 3, 0]), ("bars", 1, 0, 2, 4))
        self.assertEqual(self.check(forms[::-1], [0, 3, 5]), ("bars", 1, 0, 0, 4))
        self.assertEqual(self.check(forms, [5, 0, 4])[0], "price")

    def test_one_seller(self):
        for form in SMALL + list(some_forms(chance(97), 200)):
            for x in costs_in(form):
                low, high = prices_of(costs_in(form), x)
                bars = low is not None and high is not None and low > high
                self.assertEqual(self.check([form], [x])[0], "bars" if bars else "price")

    def test_several_sellers(self):
        source = chance(98)
        seen = {("price", False): 0, ("bars", False): 0, ("bars", True): 0}
        for _ in range(1500):
            forms = [form for form in sellers_of(source, 4) if form]
            told = self.check(forms, some_shares(source, forms))
            seen[told[0], told[0] == "bars" and told[1] == told[3]] += 1
        self.assertGreater(min(seen.values()), 50, seen)

    def test_one_kind_alone(self):
        source = chance(99)
        for _ in range(150):
            forms = [form for form in sellers_of(source, 3) if form]
            shares = some_shares(source, forms)
            all_costs = [costs_in(form) for form in forms]
            prices = any(all(shown_at(costs, x, p) for costs, x in zip(all_costs, shares)) for p in range(-40, 41))
            sellers = range(len(forms))
            bars = any(
                bars_bar(all_costs, shares, k, y, j, z)
                for k, j in itertools.product(sellers, sellers) for y in all_costs[k] for z in all_costs[j]
            )
            self.assertNotEqual(prices, bars)
            self.assertEqual(self.check(forms, shares)[0], "price" if prices else "bars")

    def test_far(self):
        source = chance(100)
        for many in (1, 2, 3, 6):
            for _ in range(30):
                forms = [far_form(source, source.randrange(1, 5)) for _ in range(many)]
                shares = [source.choice(form)[source.randrange(2)] for form in forms]
                self.check_far(forms, shares)

    def check_far(self, forms, shares):
        told = paper_for(forms, shares)
        self.assertTrue(paper_holds(forms, shares, told))
        low, high = shares_shown(forms, shares)
        self.assertEqual(told[0] == "bars", low is not None and high is not None and low > high)
        if told[0] == "price":
            for form, x in zip(forms, shares):
                self.assertEqual(told[1] * x - cost_at(form, x), far_gain(form, told[1]))
        else:
            costs = [{x: cost_at(form, x) for x in beside_ends(form) if cost_at(form, x) is not None} for form in forms]
            self.assertTrue(bars_bar(costs, shares, *told[1:]))

    def test_long(self):
        forms = [long_form(1000)] * 6
        self.assertTrue(paper_holds(forms, [1500] * 6, paper_for(forms, [1500] * 6)))
        self.assertTrue(paper_holds(forms, [0] * 6, paper_for(forms, [0] * 6)))


class NothingChanged(unittest.TestCase):
    def test_what_is_handed_in_stays(self):
        forms, shares = [FORM, FORM[2:], ((0, 3, 1, 2),)], [3, 9, 1]
        kept = (list(forms), list(shares))
        for asked in (
            lambda: shows(FORM, 3, 2), lambda: prices_at(FORM, 3), lambda: shares_shown(forms, shares),
            lambda: paper_for(forms, shares),
        ):
            told = asked()
            self.assertEqual((forms, shares), kept)
            self.assertEqual(asked(), told)
