import unittest

from helper import (
    FAR_FORM, are_spans, beside_ends, chance, costs_in, far_form, far_gain, far_number, form_from, held_by, long_form,
    sellers_of, small_forms,
)
from offerhouse.deeds import plus
from offerhouse.errors import NotOffered
from offerhouse.forms import cost_at, is_form
from offerhouse.gains import best_amounts, gain_at, gains
from offerhouse.house import joined
from offerhouse.split import split

N = 10 ** 39 + 7
FORM = ((-4, -1, 9, -3), (0, 0, 7, 0), (2, 4, 1, 5), (5, 6, 0, 0), (9, 9, -8, 0))
SMALL = [form for form in small_forms(4, (None, 0, 1, 3)) + [FORM] if form]


def gain_of(costs, p):
    return max(p * x - cost for x, cost in costs.items())


def some_forms(source, many):
    for _ in range(many):
        slope = source.randrange(-3, 4)
        costs = {x: source.randrange(9) + x * slope for x in range(-5, 7) if source.randrange(3)}
        if costs:
            yield form_from(costs)


class GainAt(unittest.TestCase):
    def test_known(self):
        self.assertEqual([gain_at(((0, 5, 3, 2),), p) for p in (-9, 0, 1, 2, 3, 9)], [-3, -3, -3, -3, 2, 32])
        self.assertEqual([gain_at(((0, 5, 3, -2),), p) for p in (-9, -3, -2, -1, 0, 9)], [-3, -3, -3, 2, 7, 52])
        self.assertEqual([gain_at(((4, 4, 7, 0),), p) for p in (-2, -1, 0, 1, 2)], [-15, -11, -7, -3, 1])
        self.assertEqual([gain_at(((-4, -4, -7, 0),), p) for p in (-2, 0, 2)], [15, 7, -1])

    def test_one_by_one(self):
        for form in SMALL + list(some_forms(chance(71), 300)):
            costs = costs_in(form)
            for p in range(-12, 13):
                self.assertEqual(gain_at(form, p), gain_of(costs, p), (form, p))

    def test_far(self):
        source = chance(72)
        self.assertEqual(gain_at(((0, N, 0, 2),), N), N * N - 2 * N)
        self.assertEqual(gain_at(((-N, 0, 0, 2),), -N), N * N)
        for _ in range(60):
            form = far_form(source, source.randrange(1, 8))
            for p in (0, 1, -1, far_number(source, 10), far_number(source, 20), far_number(source, 40), N, -N):
                self.assertEqual(gain_at(form, p), far_gain(form, p))
        for p in (-10 ** 400 + 1, -1, 0, 1, 10 ** 400 - 1):
            self.assertEqual(gain_at(FAR_FORM, p), far_gain(FAR_FORM, p))

    def test_long(self):
        form = long_form(1000)
        for p in (-5, 0, 3, 300, 999, 5000):
            self.assertEqual(gain_at(form, p), gain_of(costs_in(form), p))

    def test_nothing_offered(self):
        for p in (0, 5, -N):
            with self.assertRaises(NotOffered):
                gain_at((), p)


class Gains(unittest.TestCase):
    def form(self, told, asked):
        self.assertIs(type(told), tuple)
        self.assertTrue(is_form(told), told)
        self.assertEqual(told, asked)

    def test_known(self):
        self.form(gains(((0, 5, 3, 2),), -2, 4), ((-2, 2, -3, 0), (3, 4, 2, 5)))
        self.form(gains(((4, 4, 7, 0),), -2, 4), ((-2, 4, -15, 4),))
        self.form(gains(((0, 0, 7, 0),), -N, N), ((-N, N, -7, 0),))
        self.form(gains(((-3, 3, 0, 0),), -5, 5), ((-5, 0, 15, -3), (1, 5, 3, 3)))

    def test_low_equal_to_high(self):
        for form in SMALL:
            for p in (-4, -1, 0, 2, N):
                self.form(gains(form, p, p), ((p, p, gain_of(costs_in(form), p), 0),))

    def test_at_each_price(self):
        for form in SMALL + list(some_forms(chance(73), 300)):
            costs = costs_in(form)
            for low, high in ((-12, 12), (-3, 4), (0, 1), (-7, -5)):
                self.form(gains(form, low, high), form_from({p: gain_of(costs, p) for p in range(low, high + 1)}))

    def test_far_bounds(self):
        self.form(gains(((0, 5, 3, 2),), -N, N), ((-N, 2, -3, 0), (3, N, 2, 5)))
        for form in SMALL[::3] + [FORM]:
            self.check_far(form, -N, N)

    def check_far(self, form, low, high):
        told = gains(form, low, high)
        self.assertTrue(is_form(told))
        self.assertEqual((told[0][0], told[-1][1]), (low, high))
        for p in beside_ends(told):
            self.assertEqual(cost_at(told, p), far_gain(form, p) if low <= p <= high else None, (form, p))

    def test_far(self):
        source = chance(74)
        for _ in range(60):
            form = far_form(source, source.randrange(1, 8))
            low, high = sorted(far_number(source, source.choice((1, 20, 50))) for _ in range(2))
            self.check_far(form, low, high)
            self.check_far(form, -10 ** 70, 10 ** 70)
        self.check_far(FAR_FORM, -10 ** 400 + 1, 10 ** 400 - 1)

    def test_long(self):
        form = long_form(1000)
        self.check_far(form, -10, 2000)
        self.check_far(form, -N, N)

    def test_nothing_offered(self):
        for low, high in ((0, 0), (-5, 5), (-N, N)):
            with self.assertRaises(NotOffered):
                gains((), low, high)

    def test_gains_of_a_split_are_the_sums(self):
        forms = list(some_forms(chance(75), 200))
        for one, other in zip(forms, forms[1:]):
            together = split(one, other)
            for low, high in ((-9, 9), (2, 2), (-N, N)):
                self.form(gains(together, low, high), plus(gains(one, low, high), gains(other, low, high)))
            for p in (-11, -4, -1, 0, 1, 3, 8, N):
                self.assertEqual(gain_at(together, p), gain_at(one, p) + gain_at(other, p))

    def test_gains_of_a_far_split_are_the_sums(self):
        source = chance(76)
        for _ in range(30):
            one, other = far_form(source, 4), far_form(source, 4)
            together = split(one, other)
            self.form(gains(together, -10 ** 60, 10 ** 60),
                      plus(gains(one, -10 ** 60, 10 ** 60), gains(other, -10 ** 60, 10 ** 60)))

    def test_gains_of_joined_sellers_are_the_sums(self):
        source = chance(77)
        for _ in range(150):
            forms = [form for form in sellers_of(source, 6) if form]
            asked = ((-N, N, 0, 0),)
            for form in forms:
                asked = plus(asked, gains(form, -N, N))
            self.form(gains(joined(forms), -N, N), asked)
            for p in range(-9, 10):
                self.assertEqual(gain_at(joined(forms), p), sum(gain_at(form, p) for form in forms))


class BestAmounts(unittest.TestCase):
    def check(self, form, p, asked):
        told = best_amounts(form, p)
        self.assertTrue(are_spans(told), told)
        self.assertEqual(told, asked)

    def test_known(self):
        self.check(((4, 4, 7, 0),), -N, ((4, 4),))
        self.check(((0, 5, 3, 2),), 1, ((0, 0),))
        self.check(((0, 5, 3, 2),), 2, ((0, 5),))
        self.check(((0, 5, 3, 2),), 3, ((5, 5),))
        self.check(((0, 0, 0, 0), (2, 2, 2, 0), (4, 9, 4, 1), (11, 11, 12, 0)), 1, ((0, 0), (2, 2), (4, 9)))
        self.check(((0, 0, 0, 0), (2, 2, 2, 0), (4, 9, 4, 1), (11, 11, 11, 0)), 1, ((0, 0), (2, 2), (4, 9), (11, 11)))

    def test_neighbours_are_one_span(self):
        self.check(((0, 4, 0, 2), (5, 9, 11, 3)), 2, ((0, 4),))
        self.check(((0, 4, 0, 2), (5, 9, 9, 3)), 2, ((5, 5),))
        # The amounts 4 and 5 gain the same and most, each at the end of its own stretch.
        self.check(((0, 4, 4, -1), (5, 9, 0, 1)), 0, ((4, 5),))
        self.check(((0, 4, 0, 0), (5, 9, 1, 1)), 0, ((0, 4),))
        self.check(((0, 4, 0, 0), (5, 6, 1, -1), (7, 9, 0, 0)), 0, ((0, 4), (6, 9)))

    def test_one_by_one(self):
        for form in SMALL + list(some_forms(chance(78), 300)):
            costs = costs_in(form)
            for p in range(-9, 10):
                told = best_amounts(form, p)
                self.assertTrue(are_spans(told), told)
                best = gain_of(costs, p)
                self.assertEqual(held_by(told), [x for x in sorted(costs) if p * x - costs[x] == best], (form, p))

    def test_far(self):
        self.check(((-N, N, 5, 3),), 3, ((-N, N),))
        self.check(((-N, N, 5, 3),), N, ((N, N),))
        self.check(((-N, N, 5, 3), (N + 2, 2 * N, 5 + 6 * N + 6, 3)), 3, ((-N, N), (N + 2, 2 * N)))
        source = chance(79)
        for _ in range(60):
            form = far_form(source, source.randrange(1, 8))
            for p in [row[3] for row in form] + [0, far_number(source, 30)]:
                told = best_amounts(form, p)
                self.assertTrue(are_spans(told))
                rows = tuple((low, high, 0, 0) for low, high in told)
                for x in beside_ends(form, rows):
                    cost = cost_at(form, x)
                    here = cost is not None and p * x - cost == far_gain(form, p)
                    self.assertEqual(any(low <= x <= high for low, high in told), here)

    def test_nothing_offered(self):
        for p in (0, 5, -N):
            with self.assertRaises(NotOffered):
                best_amounts((), p)


class NothingChanged(unittest.TestCase):
    def test_the_same_is_told_again(self):
        kept = tuple(list(FORM))
        for asked in (lambda: gain_at(FORM, 3), lambda: gains(FORM, -5, 5), lambda: best_amounts(FORM, 2)):
            self.assertEqual(asked(), asked())
        self.assertEqual(FORM, kept)
