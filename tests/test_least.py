import unittest

from helper import FAR_FORM, beside_ends, chance, costs_in, far_form, far_number, form_from, long_form, small_forms
from offerhouse.deeds import moved, raised, times
from offerhouse.errors import NotOffered
from offerhouse.forms import cost_at, is_form
from offerhouse.least import amounts_for, at_least, greatest, least, least_cost

FORM = ((-4, -1, 9, -3), (0, 0, 7, 0), (2, 4, 1, 5), (5, 6, 0, 0), (9, 9, -8, 0))
FORMS = small_forms(4, (None, 0, 1, 3)) + [FORM]
N = 10 ** 40


def some_far_forms():
    source = chance(31)
    return [FAR_FORM, FORM, ()] + [far_form(source, source.randrange(1, 8)) for _ in range(60)]


class Told(unittest.TestCase):
    def form(self, told, asked):
        self.assertIs(type(told), tuple)
        self.assertTrue(is_form(told), told)
        self.assertEqual(told, asked)

    def costs(self, told, costs):
        self.form(told, form_from(costs))


class LeastAndGreatest(Told):
    def both(self, one, other, lesser, greater):
        self.form(least(one, other), lesser)
        self.form(least(other, one), lesser)
        self.form(greatest(one, other), greater)
        self.form(greatest(other, one), greater)

    def test_nothing_offered(self):
        for form in ((), ((3, 3, 7, 0),), FORM, FAR_FORM):
            self.both(form, (), form, ())

    def test_the_same_twice(self):
        for form in FORMS + [FAR_FORM]:
            self.both(form, form, form, form)

    def test_apart_and_neighbours(self):
        self.both(((0, 4, 1, 2),), ((7, 9, 1, 0),), ((0, 4, 1, 2), (7, 9, 1, 0)), ())
        self.both(((0, 4, 1, 2),), ((5, 9, 1, 0),), ((0, 4, 1, 2), (5, 9, 1, 0)), ())
        self.both(((0, 4, 1, 2),), ((5, 9, 11, 2),), ((0, 9, 1, 2),), ())
        self.both(((0, 4, 1, 2),), ((5, 9, 11, 3),), ((0, 5, 1, 2), (6, 9, 14, 3)), ())
        self.both(((3, 3, 1, 0),), ((4, 4, 9, 0),), ((3, 4, 1, 8),), ())
        one, other = ((0, 0, 3, 0), (2, 2, 3, 0), (4, 4, 3, 0)), ((1, 1, 3, 0), (3, 3, 3, 0))
        self.both(one, other, ((0, 4, 3, 0),), ())

    def test_overlap_in_part(self):
        self.both(((0, 5, 9, 0),), ((3, 9, 4, 0),), ((0, 2, 9, 0), (3, 9, 4, 0)), ((3, 5, 9, 0),))
        self.both(((0, 5, 4, 0),), ((3, 9, 9, 0),), ((0, 5, 4, 0), (6, 9, 9, 0)), ((3, 5, 9, 0),))
        self.both(((0, 5, 4, 1),), ((5, 9, 0, 1),), ((0, 4, 4, 1), (5, 9, 0, 1)), ((5, 5, 9, 0),))

    def test_one_within_another(self):
        self.both(((0, 9, 5, 0),), ((3, 5, 1, 0),), ((0, 2, 5, 0), (3, 5, 1, 0), (6, 9, 5, 0)), ((3, 5, 5, 0),))
        self.both(((0, 9, 5, 0),), ((3, 5, 9, 0),), ((0, 9, 5, 0),), ((3, 5, 9, 0),))
        lesser = ((0, 2, 5, 0), (3, 4, 1, 4), (5, 6, 1, 4), (7, 9, 5, 0))
        self.both(((0, 9, 5, 0),), ((3, 3, 1, 0), (5, 5, 1, 0)), lesser, ((3, 3, 5, 0), (5, 5, 5, 0)))

    def test_one_stretch_over_many(self):
        many = ((0, 1, 3, 0), (3, 4, 9, 0), (6, 7, 3, 0))
        lesser = ((-1, 0, 5, -2), (1, 2, 3, 2), (3, 5, 5, 0), (6, 7, 3, 0), (8, 9, 5, 0))
        self.both(many, ((-1, 9, 5, 0),), lesser, ((0, 1, 5, 0), (3, 4, 9, 0), (6, 7, 5, 0)))

    def test_crossing_between_two_amounts(self):
        one, other = ((0, 9, 0, 2),), ((0, 9, 5, 0),)
        self.both(one, other, ((0, 2, 0, 2), (3, 9, 5, 0)), ((0, 2, 5, 0), (3, 9, 6, 2)))

    def test_crossing_at_an_amount(self):
        one, other = ((0, 9, 0, 2),), ((0, 9, 6, 0),)
        self.both(one, other, ((0, 3, 0, 2), (4, 9, 6, 0)), ((0, 3, 6, 0), (4, 9, 8, 2)))

    def test_crossing_at_an_end(self):
        self.both(((0, 9, 0, 2),), ((0, 9, 0, 0),), ((0, 9, 0, 0),), ((0, 9, 0, 2),))
        self.both(((0, 9, 0, 2),), ((0, 9, 18, 0),), ((0, 9, 0, 2),), ((0, 9, 18, 0),))
        self.both(((0, 9, 0, 2),), ((0, 9, 17, 0),), ((0, 8, 0, 2), (9, 9, 17, 0)), ((0, 8, 17, 0), (9, 9, 18, 0)))
        self.both(((0, 9, 0, 2),), ((0, 9, 1, 0),), ((0, 1, 0, 1), (2, 9, 1, 0)), ((0, 1, 1, 1), (2, 9, 4, 2)))

    def test_alike_lines(self):
        self.both(((0, 5, 0, 2),), ((3, 9, 6, 2),), ((0, 9, 0, 2),), ((3, 5, 6, 2),))
        self.both(((0, 5, 0, 2),), ((3, 9, 7, 2),), ((0, 5, 0, 2), (6, 9, 13, 2)), ((3, 5, 7, 2),))

    def test_one_by_one(self):
        for one in small_forms(3, (None, 0, 1, 3)):
            for other in small_forms(3, (None, 0, 2, 1)):
                for count in (-3, -2, -1, 0, 1):
                    self.check_small(one, moved(other, count))

    def test_some_one_by_one(self):
        source = chance(32)
        for _ in range(6000):
            costs = [
                {x: source.randrange(6) + x * slope for x in range(9) if source.randrange(5)}
                for slope in (source.randrange(-2, 3), source.randrange(-2, 3))
            ]
            self.check_small(form_from(costs[0]), form_from(costs[1]))

    def check_small(self, one, other):
        mine, yours = costs_in(one), costs_in(other)
        both = [x for x in mine if x in yours]
        lesser = {**mine, **yours, **{x: min(mine[x], yours[x]) for x in both}}
        self.costs(least(one, other), lesser)
        self.costs(greatest(one, other), {x: max(mine[x], yours[x]) for x in both})

    def test_far(self):
        forms = some_far_forms()
        source = chance(33)
        for one, other in zip(forms, forms[1:] + forms[:1]):
            self.check_far(one, other)
            near = moved(one, source.choice((-1, 1, 2, -10 ** 30)))
            self.check_far(one, near)
            self.check_far(one, raised(times(near, -1), far_number(source, 30)))

    def check_far(self, one, other):
        lesser, greater = least(one, other), greatest(one, other)
        self.assertTrue(is_form(lesser) and is_form(greater))
        self.assertEqual((least(other, one), greatest(other, one)), (lesser, greater))
        for x in beside_ends(one, other, lesser, greater):
            costs = [cost for cost in (cost_at(one, x), cost_at(other, x)) if cost is not None]
            self.assertEqual(cost_at(lesser, x), min(costs, default=None), (one, other, x))
            self.assertEqual(cost_at(greater, x), max(costs) if len(costs) == 2 else None, (one, other, x))

    def test_far_crossing(self):
        # The lines cost the same at N, and between N and the next amount when one more is paid.
        one, other = ((0, 9 * N, 0, 3),), ((0, 9 * N, 3 * N, 0),)
        lesser = ((0, N, 0, 3), (N + 1, 9 * N, 3 * N, 0))
        self.both(one, other, lesser, ((0, N, 3 * N, 0), (N + 1, 9 * N, 3 * N + 3, 3)))
        dear = raised(other, 1)
        lesser = ((0, N, 0, 3), (N + 1, 9 * N, 3 * N + 1, 0))
        self.both(one, dear, lesser, ((0, N, 3 * N + 1, 0), (N + 1, 9 * N, 3 * N + 3, 3)))

    def test_hundreds_of_figures(self):
        n = 10 ** 400 - 1
        self.check_far(((-n, n, n, -n),), ((-n, n, -n, n),))
        self.check_far(((-n, n, n, -n),), ((-5, 5, 0, 0), (n, n, n, 0)))

    def test_long(self):
        form = long_form(1000)
        self.form(least(form, raised(form, 1)), form)
        self.form(greatest(form, raised(form, 1)), raised(form, 1))
        gaps = tuple((3 * k + 2, 3 * k + 2, -9, 0) for k in range(1000))
        self.check_small(form, gaps)
        self.check_small(form, ((0, 2999, 9 * 10 ** 5, -300),))
        self.check_small(form, moved(form, 1))


class AtLeast(Told):
    def asked(self, form):
        costs = costs_in(form)
        asked = {}
        best = None
        for x in range(max(costs), min(costs) - 1, -1):
            if x in costs:
                best = costs[x] if best is None else min(best, costs[x])
            asked[x] = best
        return asked

    def test_known(self):
        self.form(at_least(()), ())
        self.form(at_least(((3, 3, 7, 0),)), ((3, 3, 7, 0),))

    def test_costs_that_fall(self):
        self.form(at_least(((0, 4, 9, -2),)), ((0, 4, 1, 0),))
        self.form(at_least(((0, 4, 9, -2), (5, 6, 0, -1))), ((0, 6, -1, 0),))

    def test_costs_that_rise(self):
        self.form(at_least(((0, 4, 1, 2),)), ((0, 4, 1, 2),))
        self.form(at_least(((0, 4, 1, 2), (5, 6, 30, 1))), ((0, 4, 1, 2), (5, 6, 30, 1)))
        self.form(at_least(((0, 4, 1, 0),)), ((0, 4, 1, 0),))

    def test_costs_that_rise_and_fall(self):
        self.form(at_least(((0, 4, 1, 2), (5, 6, 4, 0))), ((0, 1, 1, 2), (2, 6, 4, 0)))
        self.form(at_least(((0, 4, 1, 2), (5, 6, 5, 0))), ((0, 2, 1, 2), (3, 6, 5, 0)))
        self.form(at_least(((0, 4, 1, 2), (5, 6, 0, 0))), ((0, 6, 0, 0),))
        self.form(at_least(((0, 4, 9, -2), (5, 6, 3, 5))), ((0, 4, 1, 0), (5, 6, 3, 5)))

    def test_gaps(self):
        self.form(at_least(((0, 1, 1, 2), (5, 6, 9, 1))), ((0, 1, 1, 2), (2, 5, 9, 0), (6, 6, 10, 0)))
        self.form(at_least(((0, 0, 1, 0), (2, 2, 9, 0))), ((0, 1, 1, 8), (2, 2, 9, 0)))
        self.form(at_least(((0, 0, 9, 0), (5, 5, 1, 0))), ((0, 5, 1, 0),))
        self.form(at_least(((-9, -9, 1, 0), (-1, 3, 2, 1))), ((-9, -8, 1, 1), (-7, -1, 2, 0), (0, 3, 3, 1)))

    def test_one_by_one(self):
        for form in FORMS + small_forms(5, (None, 0, 2, 1)):
            if form:
                self.costs(at_least(form), self.asked(form))

    def test_some_one_by_one(self):
        source = chance(34)
        for _ in range(3000):
            slope = source.randrange(-2, 4)
            costs = {x: source.randrange(8) + x * slope for x in range(-3, 9) if source.randrange(4)}
            form = form_from(costs)
            if form:
                self.costs(at_least(form), self.asked(form))

    def test_far(self):
        for form in some_far_forms():
            told = at_least(form)
            self.assertTrue(is_form(told))
            for x in beside_ends(form, told):
                self.assertEqual(cost_at(told, x), self.far_asked(form, x), (form, x))

    def far_asked(self, form, x):
        if not form or not form[0][0] <= x <= form[-1][1]:
            return None
        costs = []
        for low, high, price, step in form:
            if high >= x:
                costs.extend([price + step * (max(low, x) - low), price + step * (high - low)])
        return min(costs)

    def test_long(self):
        form = long_form(1000)
        for here in (form, times(form, -1), raised(times(form, 3), -N)):
            self.costs(at_least(here), self.asked(here))


class AmountsFor(unittest.TestCase):
    def check(self, form, price, asked):
        told = amounts_for(form, price)
        self.assertIs(type(told), tuple)
        self.assertEqual(told, asked, (form, price))

    def check_spans(self, told):
        self.assertTrue(all(type(span) is tuple and len(span) == 2 and span[0] <= span[1] for span in told))
        self.assertTrue(all(row[0] >= ahead[1] + 2 for ahead, row in zip(told, told[1:])), told)

    def test_below_at_and_above_all_costs(self):
        self.check((), 5, ())
        self.check(FORM, -9, ())
        self.check(FORM, -8, ((9, 9),))
        self.check(FORM, 11, ((-4, 0), (2, 6), (9, 9)))
        self.check(FORM, 10 ** 399, ((-4, 0), (2, 6), (9, 9)))

    def test_rising_and_falling(self):
        self.check(((0, 9, 0, 2),), 7, ((0, 3),))
        self.check(((0, 9, 0, 2),), 8, ((0, 4),))
        self.check(((0, 9, 0, 2),), -1, ())
        self.check(((0, 9, 18, -2),), 7, ((6, 9),))
        self.check(((0, 9, 18, -2),), 8, ((5, 9),))
        self.check(((0, 9, 18, -2),), -1, ())
        self.check(((0, 9, 5, 0),), 5, ((0, 9),))
        self.check(((0, 9, 5, 0),), 4, ())

    def test_neighbours_are_one_span(self):
        form = ((0, 4, 9, -2), (5, 9, 0, 2))
        self.check(form, 3, ((3, 6),))
        self.check(form, 0, ((5, 5),))
        self.check(form, 9, ((0, 9),))
        self.check(((0, 4, 0, 2), (5, 9, 8, -2)), 3, ((0, 1), (8, 9)))
        self.check(((0, 4, 0, 2), (5, 9, 0, 2)), 6, ((0, 3), (5, 8)))

    def test_one_by_one(self):
        for form in FORMS:
            costs = costs_in(form)
            for price in range(-9, 13):
                told = amounts_for(form, price)
                self.check_spans(told)
                held = [x for low, high in told for x in range(low, high + 1)]
                self.assertEqual(held, [x for x in sorted(costs) if costs[x] <= price], (form, price))

    def test_far(self):
        for form in some_far_forms():
            prices = {cost_at(form, x) for x in beside_ends(form)} - {None} | {0}
            for price in sorted(prices)[::3]:
                for near in (price - 1, price, price + 1):
                    self.check_far(form, near)

    def check_far(self, form, price):
        told = amounts_for(form, price)
        self.check_spans(told)
        ends = tuple((low, high, 0, 0) for low, high in told)
        for x in beside_ends(form, ends):
            cost = cost_at(form, x)
            here = cost is not None and cost <= price
            self.assertEqual(any(low <= x <= high for low, high in told), here, (form, price, x))

    def test_long(self):
        form = long_form(1000)
        self.assertEqual(amounts_for(form, 10 ** 9), tuple((3 * k, 3 * k + 1) for k in range(1000)))
        neighbours = tuple((2 * k, 2 * k + 1, 5 * k, 0) for k in range(1000))
        self.check(neighbours, 4990, ((0, 1997),))


class LeastCost(unittest.TestCase):
    def check(self, form, asked):
        told = least_cost(form)
        self.assertIs(type(told), tuple)
        self.assertEqual(told, asked, form)

    def test_nothing_offered(self):
        with self.assertRaises(NotOffered):
            least_cost(())

    def test_known(self):
        self.check(((3, 3, 7, 0),), (7, 3))
        self.check(((0, 9, 0, 2),), (0, 0))
        self.check(((0, 9, 18, -2),), (0, 9))
        self.check(((0, 9, 5, 0),), (5, 0))
        self.check(FORM, (-8, 9))
        self.check(((-9, -5, -7, 1), (3, 4, 0, 0)), (-7, -9))

    def test_the_least_amount_of_several(self):
        self.check(((0, 4, 4, -1), (6, 9, 0, 1)), (0, 4))
        self.check(((0, 4, 4, -1), (6, 9, 0, 0)), (0, 4))
        self.check(((0, 4, 5, -1), (6, 9, 0, 0), (12, 12, 0, 0)), (0, 6))
        self.check(((-3, 4, 0, 0), (6, 9, 3, -1)), (0, -3))

    def test_one_by_one(self):
        for form in FORMS:
            if form:
                self.check(form, min((cost, x) for x, cost in costs_in(form).items()))

    def test_far(self):
        self.check(((-N, N, N, -3),), (N - 6 * N, N))
        self.check(((-N, N, N, 3), (10 ** 49, 10 ** 50, N, 0)), (N, -N))
        for form in some_far_forms():
            if form:
                costs = {x: cost_at(form, x) for row in form for x in row[:2]}
                self.check(form, min((cost, x) for x, cost in costs.items()))

    def test_long(self):
        self.check(long_form(1000), (0, 0))
        self.check(times(long_form(1000), -1), (-999 * 999 - 999, 2998))


class NothingChanged(unittest.TestCase):
    def test_the_same_is_told_again(self):
        kept = tuple(list(FORM))
        for asked in (
            lambda: least(FORM, moved(FORM, 1)), lambda: greatest(FORM, moved(FORM, 1)), lambda: at_least(FORM),
            lambda: amounts_for(FORM, 3), lambda: least_cost(FORM),
        ):
            self.assertEqual(asked(), asked())
        self.assertEqual(FORM, kept)
