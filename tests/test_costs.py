import unittest

from helper import FAR_FORM, beside_ends, chance, costs_in, far_form, far_number, form_from, long_form, small_forms
from offerhouse.costs import costs_between, from_costs, sum_between
from offerhouse.forms import cost_at, is_form

FORM = ((-4, -1, 9, -3), (0, 0, 7, 0), (2, 4, 1, 5), (5, 6, 0, 0), (9, 9, -8, 0))
FIGURES = 10 ** 39 + 7


class FromCosts(unittest.TestCase):
    def check(self, first, costs, asked=None):
        kept = list(costs)
        told = from_costs(first, costs)
        self.assertEqual(costs, kept)
        self.assertIs(type(told), tuple)
        self.assertTrue(is_form(told), kept)
        for place, cost in enumerate([None] + kept + [None]):
            self.assertEqual(cost_at(told, first + place - 1), cost, (first, kept, place))
        self.assertEqual(told, form_from({first + k: cost for k, cost in enumerate(kept) if cost is not None}))
        if asked is not None:
            self.assertEqual(told, asked)

    def test_nothing_offered(self):
        for first in (0, -3, 10 ** 49):
            self.check(first, [], ())
            self.check(first, [None], ())
            self.check(first, [None, None, None], ())

    def test_none_at_each_place(self):
        self.check(2, [None, 4, 6, 8], ((3, 5, 4, 2),))
        self.check(2, [4, 6, None, 8], ((2, 3, 4, 2), (5, 5, 8, 0)))
        self.check(2, [4, 6, 8, None], ((2, 4, 4, 2),))
        self.check(2, [None, None, 4, None, None, 6, 8, None], ((4, 4, 4, 0), (7, 8, 6, 2)))

    def test_one_cost_alone(self):
        self.check(0, [5], ((0, 0, 5, 0),))
        self.check(7, [None, -5, None], ((8, 8, -5, 0),))
        self.check(7, [3, None, -5, None, 3], ((7, 7, 3, 0), (9, 9, -5, 0), (11, 11, 3, 0)))

    def test_nought_is_a_cost(self):
        self.check(0, [0], ((0, 0, 0, 0),))
        self.check(0, [None, 0, 0, None, 0], ((1, 2, 0, 0), (4, 4, 0, 0)))

    def test_along_a_line_and_off_it(self):
        self.check(0, [5, 7, 9, 11], ((0, 3, 5, 2),))
        self.check(0, [5, 7, 9, 10, 11], ((0, 2, 5, 2), (3, 4, 10, 1)))
        self.check(0, [5, 7, 9, 10], ((0, 2, 5, 2), (3, 3, 10, 0)))
        self.check(0, [5, 4, 3, 4, 5, 6], ((0, 2, 5, -1), (3, 5, 4, 1)))

    def test_the_same_cost_again(self):
        self.check(0, [5, 5, 5], ((0, 2, 5, 0),))
        self.check(0, [5, 7, 7, 7], ((0, 1, 5, 2), (2, 3, 7, 0)))

    def test_costs_of_many_figures(self):
        for one in (FIGURES, -FIGURES):
            self.check(3, [one, 2 * one, 3 * one], ((3, 5, one, one),))
            self.check(3, [one, 2 * one, 3 * one + 1], ((3, 4, one, one), (5, 5, 3 * one + 1, 0)))
        self.check(-5, [FIGURES, None, -FIGURES, 0, 10 ** 399])

    def test_a_first_amount_below_nought_or_far(self):
        self.check(-2, [1, 2, 3, 4], ((-2, 1, 1, 1),))
        for first in (10 ** 49 + 3, -10 ** 49 - 3, 10 ** 399):
            self.check(first, [4, 6, None, 8], ((first, first + 1, 4, 2), (first + 3, first + 3, 8, 0)))

    def test_the_longest_lists(self):
        source = chance(11)
        for count in (399, 400, 440):
            self.check(-7, [3 * k for k in range(count)], ((-7, count - 8, 0, 3),))
            self.check(0, [k * k for k in range(count)])
            self.check(-10 ** 49, [source.choice((None, 0, 1, 2)) for _ in range(count)])
            self.check(10 ** 49, [far_number(source, 40) for _ in range(count)])

    def test_any_small_list(self):
        source = chance(12)
        for _ in range(3000):
            costs = [source.choice((None, 0, 1, 2, 3)) for _ in range(source.randrange(9))]
            self.check(source.randrange(-5, 6), costs)

    def test_the_list_is_not_kept(self):
        costs = [1, 2, None, 4]
        told = from_costs(0, costs)
        costs[0] = 9
        costs.append(5)
        self.assertEqual(told, ((0, 1, 1, 1), (3, 3, 4, 0)))
        self.assertEqual(from_costs(0, [1, 2, None, 4]), told)


class CostsBetween(unittest.TestCase):
    def test_a_low_above_the_high(self):
        for low, high in ((1, 0), (4, 3), (9, -9), (10 ** 49, -10 ** 49)):
            self.assertEqual(costs_between(FORM, low, high), [])
            self.assertEqual(costs_between((), low, high), [])

    def test_one_amount(self):
        for x in range(-6, 12):
            self.assertEqual(costs_between(FORM, x, x), [cost_at(FORM, x)])

    def test_known(self):
        asked = [None, 9, 6, 3, 0, 7, None, 1, 6, 11, 0, 0, None, None, -8, None]
        self.assertEqual(costs_between(FORM, -5, 10), asked)
        self.assertEqual(costs_between(FORM, -8, -5), [None] * 4)
        self.assertEqual(costs_between(FORM, 3, 5), [6, 11, 0])
        self.assertEqual(costs_between(FORM, 7, 8), [None, None])
        self.assertEqual(costs_between(FORM, 10, 12), [None] * 3)
        self.assertEqual(costs_between((), -1, 1), [None] * 3)

    def test_one_by_one(self):
        for form in small_forms(4, (None, 0, 1, 3)):
            costs = costs_in(form)
            for low in range(-2, 6):
                for high in range(low - 2, 7):
                    asked = [costs.get(x) for x in range(low, high + 1)]
                    self.assertEqual(costs_between(form, low, high), asked, (form, low, high))

    def test_far(self):
        low = 10 ** 40
        asked = [0, 0, 1, 2 - 10 ** 400, 1, 3, 5]
        self.assertEqual(costs_between(FAR_FORM, low - 1, low + 5), asked)
        form = ((-10 ** 49, -10 ** 49 + 2, 10 ** 60, -3), (10 ** 49, 10 ** 49, 8, 0))
        self.assertEqual(costs_between(form, -10 ** 49 - 1, -10 ** 49 + 1), [None, 10 ** 60, 10 ** 60 - 3])
        self.assertEqual(costs_between(form, 10 ** 49 - 1, 10 ** 49 + 1), [None, 8, None])

    def test_many_amounts(self):
        for low in (0, -200, 10 ** 49, -10 ** 49):
            form = long_form(60, low + 50)
            costs = costs_in(form)
            for high in (low + 399, low + 400, low + 440):
                asked = [costs.get(x) for x in range(low, high + 1)]
                self.assertEqual(costs_between(form, low, high), asked)
                # A list of costs leads back to the form.
                self.assertEqual(from_costs(low, asked), form)

    def test_the_list_is_the_askers_own(self):
        told = costs_between(FORM, -5, 10)
        kept = list(told)
        self.assertIs(type(told), list)
        told.clear()
        self.assertEqual(costs_between(FORM, -5, 10), kept)
        empty = costs_between(FORM, 1, 0)
        empty.append(5)
        self.assertEqual(costs_between(FORM, 1, 0), [])


class SumBetween(unittest.TestCase):
    def test_a_low_above_the_high(self):
        for low, high in ((1, 0), (4, 3), (3, 2), (9, -9), (10 ** 49, -10 ** 49)):
            self.assertEqual(sum_between(FORM, low, high), 0)

    def test_nothing_offered_between(self):
        for low, high in ((-9, -5), (1, 1), (7, 8), (10, 10 ** 49)):
            self.assertEqual(sum_between(FORM, low, high), 0)
        told = sum_between((), -10 ** 49, 10 ** 49)
        self.assertEqual(told, 0)
        self.assertIs(type(told), int)

    def test_one_amount(self):
        for x in range(-6, 12):
            self.assertEqual(sum_between(FORM, x, x), cost_at(FORM, x) or 0)

    def test_known(self):
        self.assertEqual(sum_between(FORM, -3, -2), 9)
        self.assertEqual(sum_between(FORM, 3, 4), 17)
        self.assertEqual(sum_between(FORM, -4, 9), 18 + 7 + 18 + 0 - 8)
        self.assertEqual(sum_between(FORM, -10 ** 50, 10 ** 50), 35)
        self.assertEqual(sum_between(FORM, -1, 2), 8)

    def test_one_by_one(self):
        for form in small_forms(4, (None, 0, 1, 3)) + [FORM]:
            costs = costs_in(form)
            for low in range(-6, 7):
                for high in range(low - 2, 11):
                    asked = sum(cost for x, cost in costs.items() if low <= x <= high)
                    self.assertEqual(sum_between(form, low, high), asked, (form, low, high))

    def test_far_stretches(self):
        n = 10 ** 30
        form = ((0, n - 1, 5, 2), (n + 7, 2 * n + 6, -n, 1))
        first = 5 * n + n * (n - 1)
        self.assertEqual(sum_between(form, 0, n - 1), first)
        self.assertEqual(sum_between(form, -n, n + 6), first)
        self.assertEqual(sum_between(form, -n, 9 * n), first - n * n + n * (n - 1) // 2)
        self.assertEqual(sum_between(form, n - 2, n + 7), (5 + 2 * (n - 2)) + (5 + 2 * (n - 1)) - n)

    def test_split_at_an_amount_between(self):
        source = chance(13)
        for form in [FAR_FORM, FORM] + [far_form(source, 6) for _ in range(30)]:
            amounts = beside_ends(form)
            low, high = amounts[0], amounts[-1]
            whole = sum_between(form, low, high)
            for x in amounts:
                ahead, behind = sum_between(form, low, x), sum_between(form, x + 1, high)
                self.assertEqual(ahead + behind, whole, (form, x))
                own = cost_at(form, x) or 0
                self.assertEqual(ahead - sum_between(form, low, x - 1), own, (form, x))

    def test_long(self):
        form = long_form(1000)
        self.assertEqual(sum_between(form, 0, 5000), sum(2 * k * k + k for k in range(1000)))
