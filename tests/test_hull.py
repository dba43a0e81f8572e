import unittest

from helper import (
    FAR_FORM, are_spans, beside_ends, chance, costs_in, far_form, far_hull_cost, far_number, form_from, held_by,
    long_form, small_forms,
)
from offerhouse.errors import NotOffered
from offerhouse.forms import cost_at, is_form
from offerhouse.gains import gains
from offerhouse.hull import hull, rising, touching

N = 10 ** 39 + 7
FORM = ((-4, -1, 9, -3), (0, 0, 7, 0), (2, 4, 1, 5), (5, 6, 0, 0), (9, 9, -8, 0))
SMALL = [form for form in small_forms(4, (None, 0, 1, 3)) + [FORM] if form]
BOUNDS = ((-9, 9), (-2, 1), (0, 0), (3, 4))


def hull_costs(costs, low, high):
    """What the hull costs, amount by amount and price by price."""
    gained = {p: max(p * x - cost for x, cost in costs.items()) for p in range(low, high + 1)}
    return {x: max(p * x - gain for p, gain in gained.items()) for x in range(min(costs), max(costs) + 1)}


def some_forms(source, many):
    for _ in range(many):
        slope = source.randrange(-3, 4)
        costs = {x: source.randrange(9) + x * slope for x in range(-5, 7) if source.randrange(3)}
        if costs:
            yield form_from(costs)


def some_far_forms():
    source = chance(81)
    return [FAR_FORM, FORM] + [far_form(source, source.randrange(1, 7)) for _ in range(40)]


class Hull(unittest.TestCase):
    def form(self, told, asked):
        self.assertIs(type(told), tuple)
        self.assertTrue(is_form(told), told)
        self.assertEqual(told, asked)

    def test_known(self):
        self.form(hull(((0, 0, 0, 0), (4, 4, 8, 0)), -9, 9), ((0, 4, 0, 2),))
        self.form(hull(((0, 0, 0, 0), (4, 4, 9, 0)), -9, 9), ((0, 3, 0, 2), (4, 4, 9, 0)))
        self.form(hull(((0, 2, 0, 9), (3, 4, 3, 0)), -9, 9), ((0, 1, 0, 0), (2, 4, 1, 1)))
        self.form(hull(((0, 0, 0, 0), (4, 4, 8, 0)), 0, 1), ((0, 4, 0, 1),))
        self.form(hull(((0, 0, 0, 0), (4, 4, 8, 0)), 3, 5), ((0, 4, -4, 3),))

    def test_one_amount(self):
        for low, high in BOUNDS + ((-N, N), (N, N)):
            self.form(hull(((7, 7, -3, 0),), low, high), ((7, 7, -3, 0),))

    def test_one_by_one(self):
        for form in SMALL + list(some_forms(chance(82), 300)):
            for low, high in BOUNDS:
                self.form(hull(form, low, high), form_from(hull_costs(costs_in(form), low, high)))

    def test_forms_that_rise_already(self):
        for form in (
            ((0, 9, 3, 5),), ((0, 4, 3, -2), (5, 9, -4, 1)), ((-3, 0, 0, -7), (1, 1, -20, 0)), ((2, 3, 9, 9),),
            ((0, 1, 0, -5), (2, 3, -8, -2), (4, 9, -9, 5)),
        ):
            self.assertTrue(rising(form))
            for low, high in ((-9, 9), (-N, N), (-7, 9)):
                self.form(hull(form, low, high), form)
        # Prices that do not hold all steps draw the rest on along the nearest one.
        self.form(hull(((0, 4, 3, -2), (5, 9, -5, 0)), -1, 5), ((0, 4, -1, -1), (5, 9, -5, 0)))
        self.form(hull(((0, 4, 3, -2), (5, 9, -5, 0)), -5, -1), ((0, 4, 3, -2), (5, 9, -6, -1)))

    def test_small_forms_that_rise(self):
        for form in SMALL + list(some_forms(chance(83), 300)):
            if rising(form):
                self.form(hull(form, -20, 20), form)
            else:
                self.assertNotEqual(hull(form, -20, 20), form)

    def test_nowhere_above_the_form(self):
        for form in SMALL + list(some_forms(chance(84), 200)):
            costs = costs_in(form)
            for low, high in BOUNDS + ((-N, N),):
                told = hull(form, low, high)
                self.assertTrue(all(cost_at(told, x) <= costs[x] for x in costs))
                self.assertEqual((told[0][0], told[-1][1]), (min(costs), max(costs)))

    def test_its_gains_are_those_of_the_form(self):
        for form in SMALL + list(some_forms(chance(85), 200)):
            for low, high in BOUNDS + ((-N, N),):
                self.form(gains(hull(form, low, high), low, high), gains(form, low, high))

    def test_low_equal_to_high(self):
        for form in SMALL:
            costs = costs_in(form)
            for p in (-3, 0, 2):
                gain = max(p * x - cost for x, cost in costs.items())
                self.form(hull(form, p, p), form_from({x: p * x - gain for x in range(min(costs), max(costs) + 1)}))

    def test_far(self):
        source = chance(86)
        for form in some_far_forms():
            far = sorted([far_number(source, source.choice((1, 12, 25))), far_number(source, 25)])
            for low, high in ((-10 ** 60, 10 ** 60), (-3, 4), tuple(far)):
                self.check_far(form, low, high)

    def check_far(self, form, low, high):
        told = hull(form, low, high)
        self.assertTrue(is_form(told))
        first, last = form[0][0], form[-1][1]
        for x in beside_ends(form, told):
            asked = far_hull_cost(form, x, low, high) if first <= x <= last else None
            self.assertEqual(cost_at(told, x), asked, (form, x))
            if cost_at(form, x) is not None:
                self.assertLessEqual(asked, cost_at(form, x))
        self.form(gains(told, low, high), gains(form, low, high))

    def test_long(self):
        form = long_form(1000)
        told = hull(form, -5, 2000)
        self.assertTrue(is_form(told) and rising(told))
        for x in (0, 1, 2, 3, 700, 1500, 2997, 2998):
            self.assertEqual(cost_at(told, x), far_hull_cost(form, x, -5, 2000))

    def test_nothing_offered(self):
        for asked in (hull, touching):
            for low, high in ((0, 0), (-5, 5), (-N, N)):
                with self.assertRaises(NotOffered):
                    asked((), low, high)


class Rising(unittest.TestCase):
    def check(self, form, asked):
        self.assertTrue(is_form(form), form)
        self.assertIs(rising(form), asked, form)

    def test_few_amounts(self):
        self.check((), True)
        self.check(((3, 3, -7, 0),), True)
        self.check(((3, 4, -7, -9),), True)
        self.check(((3, 4, -7, 9),), True)

    def test_a_hole(self):
        self.check(((0, 0, 0, 0), (2, 2, 0, 0)), False)
        self.check(((0, 4, 0, 1), (6, 9, 9, 4)), False)
        self.check(((0, 4, 0, 1), (5, 9, 9, 9), (11, 12, 90, 10)), False)

    def test_the_middle_one_of_three(self):
        for middle in range(-3, 9):
            self.check(form_from({0: 1, 1: middle, 2: 5}), 2 * middle <= 6)
        for middle in range(-3, 9):
            self.check(form_from({0: 1, 1: middle, 2: 4}), 2 * middle <= 5)

    def test_steps(self):
        self.check(((0, 9, 5, 0),), True)
        self.check(((0, 9, 5, -3),), True)
        self.check(((0, 4, 0, 2), (5, 9, 11, 3)), True)
        self.check(((0, 4, 0, 3), (5, 9, 14, 2)), False)
        # The step from one stretch to the next counts as well.
        self.check(((0, 4, 0, 2), (5, 9, 9, 3)), False)
        self.check(((0, 4, 0, 2), (5, 9, 12, 3)), False)
        self.check(((0, 4, 0, 2), (5, 5, 9, 0)), False)
        self.check(((0, 4, 0, 2), (5, 5, 12, 0)), True)
        self.check(((0, 4, 0, -5), (5, 9, -24, -4), (10, 11, -43, 0)), True)
        self.check(((0, 4, 0, -5), (5, 9, -24, -4), (10, 11, -45, 0)), False)
        self.check(((0, 4, 0, 5), (5, 9, 26, 6), (10, 11, 60, 10), (12, 13, 70, 1)), False)

    def test_one_by_one(self):
        for form in SMALL + list(some_forms(chance(87), 600)):
            costs = costs_in(form)
            holes = len(costs) <= max(costs) - min(costs)
            middles = [x for x in costs if x - 1 in costs and x + 1 in costs]
            bends = all(2 * costs[x] <= costs[x - 1] + costs[x + 1] for x in middles)
            self.check(form, not holes and bends)

    def test_far(self):
        self.check(((-N, N, N, -N),), True)
        self.check(((-N, N, 0, N), (N + 1, 2 * N, 2 * N * N + N + 1, N + 2)), True)
        self.check(((-N, N, 0, N), (N + 1, 2 * N, 2 * N * N + N + 1, N + 1)), True)
        self.check(((-N, N, 0, N), (N + 1, 2 * N, 2 * N * N + N + 1, N)), False)
        self.check(((-N, N, 0, N), (N + 1, 2 * N, 2 * N * N + N - 1, N + 1)), False)
        self.check(long_form(1000), False)
        self.check(tuple((2 * k, 2 * k + 1, 4 * k * k, 4 * k + 1) for k in range(1000)), True)


class Touching(unittest.TestCase):
    def check(self, form, low, high, asked):
        told = touching(form, low, high)
        self.assertTrue(are_spans(told), told)
        self.assertEqual(told, asked)

    def test_known(self):
        self.check(((7, 7, 3, 0),), 0, 0, ((7, 7),))
        self.check(((0, 2, 0, 9), (3, 4, 3, 0)), -9, 9, ((0, 0), (4, 4)))
        self.check(((0, 9, 3, 5),), -9, 9, ((0, 9),))
        self.check(((0, 9, 3, 5),), -9, 4, ((0, 0),))
        self.check(((0, 9, 3, 5),), 6, 9, ((9, 9),))
        self.check(((0, 4, 3, -2), (5, 9, -4, 1)), -2, 1, ((0, 9),))

    def test_one_by_one(self):
        for form in SMALL + list(some_forms(chance(88), 300)):
            costs = costs_in(form)
            for low, high in BOUNDS:
                asked = hull_costs(costs, low, high)
                told = touching(form, low, high)
                self.assertTrue(are_spans(told), told)
                self.assertEqual(held_by(told), [x for x in sorted(costs) if costs[x] == asked[x]])

    def test_far(self):
        for form in some_far_forms():
            for low, high in ((-10 ** 60, 10 ** 60), (-3, 4)):
                told, below = touching(form, low, high), hull(form, low, high)
                self.assertTrue(are_spans(told), told)
                rows = tuple((first, last, 0, 0) for first, last in told)
                for x in beside_ends(form, below, rows):
                    here = cost_at(form, x) is not None and cost_at(form, x) == far_hull_cost(form, x, low, high)
                    self.assertEqual(any(first <= x <= last for first, last in told), here)


class NothingChanged(unittest.TestCase):
    def test_the_same_is_told_again(self):
        kept = tuple(list(FORM))
        for asked in (lambda: hull(FORM, -3, 5), lambda: rising(FORM), lambda: touching(FORM, -5, 5)):
            self.assertEqual(asked(), asked())
        self.assertEqual(FORM, kept)
