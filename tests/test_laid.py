import itertools
import unittest

from helper import FAR_FORM, chance, costs_in, cut_up, far_number, form_from
from offerhouse.forms import cost_at, is_form, laid


def some_rows(source):
    """A few small stretches, many of them neighbours that go on along the line ahead."""
    rows = []
    low = source.randrange(-6, 3)
    for _ in range(source.randrange(7)):
        high = low + source.choice((0, 0, 0, 1, 1, 2, 3))
        price, step = source.randrange(-2, 3), source.randrange(-2, 3)
        if rows and source.randrange(2):
            ahead = rows[-1]
            price = ahead[2] + ahead[3] * (low - ahead[0])
            step = source.choice((step, ahead[3]))
        rows.append((low, high, price, step))
        low = high + source.choice((1, 1, 1, 2, 3))
    return rows


class Laid(unittest.TestCase):
    def check(self, rows, asked):
        kept = list(rows)
        told = laid(rows)
        self.assertEqual(told, asked, kept)
        self.assertIs(type(told), tuple)
        self.assertIs(is_form(told), True, kept)
        self.assertEqual(rows, kept)

    def test_none(self):
        self.check([], ())

    def test_neighbours_on_one_line(self):
        self.check([(0, 4, 5, 2), (5, 9, 15, 2)], ((0, 9, 5, 2),))
        self.check([(0, 4, 5, 2), (5, 5, 15, 9), (6, 8, 17, 2)], ((0, 8, 5, 2),))
        self.check([(0, 0, 5, 9), (1, 1, 7, -9), (2, 2, 9, 0)], ((0, 2, 5, 2),))

    def test_neighbours_apart(self):
        self.check([(0, 4, 5, 2), (5, 9, 16, 2)], ((0, 4, 5, 2), (5, 9, 16, 2)))
        self.check([(0, 4, 5, 2), (5, 5, 16, 2)], ((0, 4, 5, 2), (5, 5, 16, 0)))

    def test_the_stretch_ahead_takes_one_amount_of_the_next(self):
        self.check([(0, 4, 5, 2), (5, 9, 15, 3)], ((0, 5, 5, 2), (6, 9, 18, 3)))
        self.check([(0, 4, 5, 2), (5, 6, 15, 3)], ((0, 5, 5, 2), (6, 6, 18, 0)))

    def test_one_amount_alone(self):
        for step in (-5, 0, 1, 10 ** 50):
            self.check([(4, 4, 7, step)], ((4, 4, 7, 0),))
            self.check([(4, 4, 7, step), (6, 6, 7, step)], ((4, 4, 7, 0), (6, 6, 7, 0)))
            self.check([(4, 4, 7, step), (5, 5, 3, step)], ((4, 5, 7, -4),))
            self.check([(4, 4, 7, step), (5, 9, 9, 2)], ((4, 9, 7, 2),))
            self.check([(4, 4, 7, step), (5, 9, 9, 3)], ((4, 5, 7, 2), (6, 9, 12, 3)))
            self.check([(4, 4, 7, step), (5, 6, 9, 3), (7, 9, 8, 0)], ((4, 5, 7, 2), (6, 7, 12, -4), (8, 9, 8, 0)))

    def test_a_rest_of_one_amount_takes_of_the_next(self):
        self.check([(0, 1, 0, 1), (2, 3, 2, 5), (4, 4, 0, 0)], ((0, 2, 0, 1), (3, 4, 7, -7)))
        self.check([(0, 1, 0, 1), (2, 3, 2, 5), (4, 6, 0, -7)], ((0, 2, 0, 1), (3, 6, 7, -7)))

    def test_gaps(self):
        self.check([(0, 4, 5, 2), (6, 9, 17, 2)], ((0, 4, 5, 2), (6, 9, 17, 2)))
        self.check([(-9, -9, 5, 2), (0, 0, 5, 2), (1, 1, 7, 2)], ((-9, -9, 5, 0), (0, 1, 5, 2)))

    def test_pairs_one_by_one(self):
        heads = list(itertools.product((0, 1, 2), range(-2, 3), range(-2, 3)))
        for first, gap, second in itertools.product(heads, (1, 2), heads):
            low = first[0] + gap
            rows = [(0,) + first, (low, low + second[0]) + second[1:]]
            self.check(rows, form_from(costs_in(rows)))

    def test_many_one_by_one(self):
        source = chance(4)
        for _ in range(20000):
            rows = some_rows(source)
            self.check(rows, form_from(costs_in(rows)))

    def test_a_form_stays_as_it_is(self):
        self.check(list(FAR_FORM), FAR_FORM)

    def test_far_forms_cut_up(self):
        source = chance(5)
        for cuts in range(0, 30):
            self.check(cut_up(FAR_FORM, source, cuts), FAR_FORM)

    def test_far_ends(self):
        source = chance(6)
        for _ in range(1000):
            rows = []
            low = far_number(source, 50)
            for _ in range(6):
                high = low + source.choice((0, 1, 10 ** 30, 10 ** 31 + 7))
                price, step = far_number(source, 45), far_number(source, 20)
                if rows and source.randrange(2):
                    ahead = rows[-1]
                    price = ahead[2] + ahead[3] * (low - ahead[0])
                    step = source.choice((step, ahead[3]))
                rows.append((low, high, price, step))
                low = high + source.choice((1, 1, 2, 10 ** 33))
            told = laid(rows)
            self.assertIs(is_form(told), True, rows)
            for low, high, price, step in rows:
                for x in {low, min(low + 1, high), (low + high) // 2, max(low, high - 1), high}:
                    self.assertEqual(cost_at(told, x), price + step * (x - low), rows)
            offered = sum(high - low + 1 for low, high, price, step in rows)
            self.assertEqual(sum(row[1] - row[0] + 1 for row in told), offered)

    def test_hundreds_of_figures(self):
        n = 10 ** 400 - 1
        self.check([(-n, 0, n, n), (1, n, n + n * (n + 1), n)], ((-n, n, n, n),))
        self.check([(-n, -n, n, n), (1 - n, n, -n, n)], ((-n, 1 - n, n, -2 * n), (2 - n, n, 0, n)))

    def test_the_longest_lists(self):
        for count in (4000, 4400):
            self.check([(k, k, 3 * k, k) for k in range(count)], ((0, count - 1, 0, 3),))
            # No three of these lie on one line, so that each stretch takes two.
            pairs = tuple((k, k + 1, k * k, 2 * k + 1) for k in range(0, count, 2))
            self.check([(k, k, k * k, 7) for k in range(count)], pairs)
            apart = [(2 * k, 2 * k, 0, 7) for k in range(count)]
            self.check(apart, tuple((k, k, 0, 0) for k in range(0, 2 * count, 2)))
            rows = [(5 * k, 5 * k + 4, k * k, k % 7) for k in range(count)]
            self.check(rows, form_from(costs_in(rows)))

    def test_nothing_is_kept(self):
        rows = [(0, 4, 5, 2), (5, 9, 15, 2)]
        told = laid(rows)
        rows.append((20, 21, 0, 0))
        self.assertEqual(told, ((0, 9, 5, 2),))
        rows.clear()
        self.assertEqual(laid([(0, 4, 5, 2)]), ((0, 4, 5, 2),))
