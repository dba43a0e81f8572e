import unittest

from helper import (
    FAR_FORM, beside_ends, chance, costs_in, far_form, far_number, far_split_cost, form_from, long_form, small_forms,
    split_costs,
)
from offerhouse.deeds import moved, raised
from offerhouse.errors import NotOffered, TooMany
from offerhouse.forms import cost_at, is_form
from offerhouse.split import chain, parts_at, split

N = 10 ** 39 + 7
FORM = ((-4, -1, 9, -3), (0, 0, 7, 0), (2, 4, 1, 5), (5, 6, 0, 0), (9, 9, -8, 0))
SMALL = small_forms(3, (None, 0, 1, 3)) + [FORM]


class Told(unittest.TestCase):
    def form(self, told, asked):
        self.assertIs(type(told), tuple)
        self.assertTrue(is_form(told), told)
        self.assertEqual(told, asked)

    def check_far(self, told, one, other):
        self.assertTrue(is_form(told))
        ends = [x + y for row in one for x in row[:2] for other_row in other for y in other_row[:2]]
        near = {end + beside for end in ends for beside in (-1, 0, 1)}
        for x in sorted(near | set(beside_ends(told))):
            self.assertEqual(cost_at(told, x), far_split_cost(one, other, x), (one, other, x))


class Chains(Told):
    def both(self, one, other, asked):
        self.form(chain((one,), (other,)), asked)
        self.form(chain((other,), (one,)), asked)

    def test_one_amount_each(self):
        self.both((3, 3, 7, 0), (4, 4, 5, 0), ((7, 7, 12, 0),))
        self.both((-3, -3, -7, 0), (3, 3, 5, 0), ((0, 0, -2, 0),))

    def test_one_amount_and_many(self):
        self.both((3, 3, 7, 0), (4, 9, 5, 2), ((7, 12, 12, 2),))
        self.both((3, 3, 7, 0), (4, 9, 5, -2), ((7, 12, 12, -2),))
        self.both((0, 0, 0, 0), (4, 9, 5, 2), ((4, 9, 5, 2),))

    def test_steps_alike(self):
        self.both((0, 3, 1, 2), (0, 5, 4, 2), ((0, 8, 5, 2),))
        self.both((0, 3, 1, 0), (2, 5, 4, 0), ((2, 8, 5, 0),))
        self.both((0, 3, 1, -5), (2, 5, 4, -5), ((2, 8, 5, -5),))

    def test_one_step_greater(self):
        self.both((0, 3, 1, 2), (0, 5, 4, 3), ((0, 3, 5, 2), (4, 8, 14, 3)))
        self.both((0, 3, 1, 3), (0, 5, 4, 2), ((0, 5, 5, 2), (6, 8, 18, 3)))
        self.both((0, 3, 1, -2), (0, 5, 4, 3), ((0, 3, 5, -2), (4, 8, 2, 3)))
        self.both((0, 3, 1, -2), (0, 5, 4, -3), ((0, 5, 5, -3), (6, 8, -12, -2)))
        self.both((-9, -6, 1, 0), (0, 1, 4, 5), ((-9, -6, 5, 0), (-5, -5, 10, 0)))

    def test_one_by_one(self):
        rows = [
            (low, low + more, price, step if more else 0)
            for low in (-2, 0, 3) for more in (0, 1, 2, 4) for price in (0, 5) for step in (-3, 0, 1, 2)
        ]
        for one in rows:
            for other in rows:
                self.form(chain((one,), (other,)), form_from(split_costs(costs_in((one,)), costs_in((other,)))))

    def test_far(self):
        self.both((0, N, 1, 2), (N, 3 * N, 4, 3), ((N, 2 * N, 5, 2), (2 * N + 1, 4 * N, 5 + 2 * N + 3, 3)))
        self.both((-N, N, N, -N), (N, N, -N, 0), ((0, 2 * N, 0, -N),))
        source = chance(51)
        for _ in range(300):
            one, other = far_form(source, 1), far_form(source, 1)
            self.check_far(chain(one, other), one, other)
            self.assertEqual(chain(one, other), chain(other, one))
            self.assertEqual(chain(one, other), split(one, other))

    def test_hundreds_of_figures(self):
        n = 10 ** 400 - 1
        pairs = (((-n, n, n, -n), (-n, n, -n, n)), ((-n, n, n, n), (n, n, n, 0)), ((0, 1, n, n), (-n, 0, 0, n)))
        for one, other in pairs:
            self.check_far(chain((one,), (other,)), (one,), (other,))


class Splits(Told):
    def both(self, one, other, asked):
        self.form(split(one, other), asked)
        self.form(split(other, one), asked)

    def test_nothing_offered(self):
        for form in ((), ((3, 3, 7, 0),), FORM, FAR_FORM, long_form(1000)):
            self.both(form, (), ())

    def test_one_amount_alone(self):
        self.both(((0, 0, 0, 0),), FORM, FORM)
        self.both(((5, 5, 3, 0),), FORM, raised(moved(FORM, 5), 3))
        self.both(((-N, -N, -N, 0),), FAR_FORM, raised(moved(FAR_FORM, -N), -N))

    def test_gaps(self):
        self.both(((0, 0, 0, 0), (10, 10, 7, 0)), ((0, 1, 0, 1), (5, 5, 2, 0)),
                  ((0, 1, 0, 1), (5, 5, 2, 0), (10, 11, 7, 1), (15, 15, 9, 0)))
        self.both(((0, 0, 0, 0), (2, 2, 5, 0)), ((0, 0, 0, 0), (2, 2, 5, 0)),
                  ((0, 0, 0, 0), (2, 2, 5, 0), (4, 4, 10, 0)))
        self.both(((0, 0, 0, 0), (2, 2, 5, 0)), ((0, 0, 0, 0), (1, 1, 1, 0)), ((0, 1, 0, 1), (2, 3, 5, 1)))

    def test_the_cheaper_way_of_two(self):
        # A fee is worth while from the amount 4 on; at 4 both ways cost the same.
        fee = ((0, 0, 0, 0), (1, 9, 9, 1))
        plain = ((0, 9, 0, 3),)
        told = split(fee, plain)
        self.assertEqual([cost_at(told, x) for x in range(-1, 7)], [None, 0, 3, 6, 9, 12, 13, 14])
        self.both(fee, plain, form_from(split_costs(costs_in(fee), costs_in(plain))))

    def test_one_by_one(self):
        for one in SMALL:
            for other in SMALL:
                self.form(split(one, other), form_from(split_costs(costs_in(one), costs_in(other))))

    def test_some_one_by_one(self):
        source = chance(52)
        for _ in range(1500):
            costs = [
                {x: source.randrange(7) + x * slope for x in range(-3, 9) if source.randrange(4)}
                for slope in (source.randrange(-3, 4), source.randrange(-3, 4))
            ]
            one, other = form_from(costs[0]), form_from(costs[1])
            self.form(split(one, other), form_from(split_costs(*costs)))
            self.assertEqual(split(other, one), split(one, other))

    def test_three_in_either_order(self):
        source = chance(53)
        for _ in range(300):
            one, other, third = (
                form_from({x: source.randrange(9) for x in range(6) if source.randrange(3)}) for _ in range(3)
            )
            first, last = split(one, other), split(other, third)
            if max(len(first) * len(third), len(one) * len(last)) <= 100:
                asked = form_from(split_costs(costs_in(one), costs_in(other), costs_in(third)))
                self.form(split(first, third), asked)
                self.form(split(one, last), asked)

    def test_far(self):
        source = chance(54)
        for _ in range(60):
            one, other = far_form(source, source.randrange(1, 7)), far_form(source, source.randrange(1, 7))
            self.check_far(split(one, other), one, other)
            self.assertEqual(split(one, other), split(other, one))
        self.check_far(split(FAR_FORM, FAR_FORM), FAR_FORM, FAR_FORM)

    def test_far_ways_that_cross(self):
        source = chance(55)
        for _ in range(60):
            high = abs(far_number(source, 30))
            one = ((0, 0, 0, 0), (1, high, abs(far_number(source, 40)), source.randrange(10 ** 9)))
            other = ((0, high, 0, source.randrange(10 ** 10)), (2 * high, 3 * high, 0, -source.randrange(10 ** 9)))
            self.check_far(split(one, other), one, other)

    def test_too_many(self):
        for one, other in ((1, 101), (101, 1), (11, 10), (10, 11), (2, 51), (1000, 1), (1000, 1000)):
            with self.assertRaises(TooMany):
                split(long_form(one), long_form(other))

    def test_not_too_many(self):
        for one, other in ((1, 100), (100, 1), (10, 10), (2, 50), (9, 11)):
            mine, yours = long_form(one), long_form(other, 5)
            self.form(split(mine, yours), form_from(split_costs(costs_in(mine), costs_in(yours))))
        for one, other in ((0, 1000), (1000, 0), (0, 0)):
            self.form(split(long_form(one), long_form(other)), ())


class Parts(Told):
    def check(self, one, other, x, cost):
        told = parts_at(one, other, x)
        self.assertIs(type(told), tuple)
        self.assertEqual(len(told), 2)
        self.assertTrue(all(type(part) is int for part in told))
        self.assertEqual(sum(told), x)
        costs = [cost_at(one, told[0]), cost_at(other, told[1])]
        self.assertNotIn(None, costs, (one, other, x))
        self.assertEqual(sum(costs), cost, (one, other, x))

    def refused(self, one, other, x, refusal=NotOffered):
        with self.assertRaises(refusal):
            parts_at(one, other, x)

    def check_small(self, one, other):
        costs = split_costs(costs_in(one), costs_in(other))
        for x in range(min(costs, default=0) - 1, max(costs, default=0) + 2):
            if x in costs:
                self.check(one, other, x, costs[x])
            else:
                self.refused(one, other, x)

    def test_known(self):
        self.assertEqual(parts_at(((3, 3, 7, 0),), ((4, 4, 5, 0),), 7), (3, 4))
        self.assertEqual(parts_at(((0, 5, 0, 1),), ((0, 5, 0, 2),), 3), (3, 0))
        self.assertEqual(parts_at(((0, 5, 0, 2),), ((0, 5, 0, 1),), 7), (2, 5))

    def test_one_by_one(self):
        for one in SMALL:
            for other in SMALL[::3] + [FORM]:
                self.check_small(one, other)

    def test_not_offered(self):
        self.refused((), FORM, 0)
        self.refused(FORM, (), 0)
        self.refused((), (), 0)
        self.refused(((0, 0, 0, 0), (10, 10, 7, 0)), ((0, 1, 0, 1),), 5)
        self.refused(((0, 0, 0, 0),), ((0, 0, 0, 0),), 10 ** 400)
        self.refused(long_form(1000), (), 1)

    def test_far(self):
        source = chance(56)
        for _ in range(60):
            one, other = far_form(source, source.randrange(1, 6)), far_form(source, source.randrange(1, 6))
            told = split(one, other)
            for x in beside_ends(told):
                if cost_at(told, x) is None:
                    self.refused(one, other, x)
                else:
                    self.check(one, other, x, far_split_cost(one, other, x))

    def test_thirty_figures(self):
        one, other = ((0, 0, 0, 0), (1, 10 ** 30, 10 ** 15, 2)), ((0, 10 ** 29, 0, 1), (10 ** 30, 10 ** 30, 5, 0))
        for x in (10 ** 29, 10 ** 29 + 1, 5 * 10 ** 29 + 3, 10 ** 30 - 1, 10 ** 30, 10 ** 30 + 7, 2 * 10 ** 30):
            self.check(one, other, x, far_split_cost(one, other, x))
        self.refused(one, other, 2 * 10 ** 30 + 1)

    def test_too_many_ahead_of_not_offered(self):
        self.refused(long_form(101), long_form(1), -5, TooMany)
        self.refused(long_form(11), long_form(10), 10 ** 30, TooMany)
        self.refused(long_form(11), long_form(10), 0, TooMany)
        self.refused(long_form(10), long_form(10), -5, NotOffered)
        self.check(long_form(10), long_form(10), 0, 0)


class NothingChanged(unittest.TestCase):
    def test_the_same_is_told_again(self):
        kept = tuple(list(FORM))
        for asked in (
            lambda: chain(FORM[:1], FORM[2:3]), lambda: split(FORM, moved(FORM, 1)), lambda: parts_at(FORM, FORM, 4),
        ):
            self.assertEqual(asked(), asked())
        self.assertEqual(FORM, kept)
