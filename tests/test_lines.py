import itertools
import unittest

from helper import chance, costs_in, far_number
from offerhouse.lines import down, line_at, lower_line, no_dearer, sum_on, up

SMALL_LINES = list(itertools.product(range(-3, 4), range(-2, 3)))


def small_cases():
    """Pairs of lines alike, apart and crossing either way, from a low to a high that is it or just above it."""
    for one, other in itertools.product(SMALL_LINES, SMALL_LINES):
        for low, length in ((-7, 0), (0, 1), (5, 3), (-2, 5)):
            yield one, other, low, low + length


def far_cases():
    """Lines of up to 50 figures that cross in any place, and highs of up to 10 ** 60 above the low."""
    source = chance(1)
    for count in range(3000):
        figures = 1 + count % 50
        low = far_number(source, figures)
        high = low + source.randrange(10 ** source.randrange(61) + 1)
        one = (far_number(source, 50), far_number(source, 1 + source.randrange(50)))
        other = (far_number(source, 50), far_number(source, 1 + source.randrange(50)))
        yield one, other, low, high
        near = (one[0] + source.randrange(-2, 3), one[1] + source.randrange(-1, 2))
        yield one, near, low, high


def meeting_cases():
    """Lines that cost the same at one amount far from the low, or miss it by one, told with that amount."""
    for place in (0, 1, 2, 10 ** 20, 10 ** 60 - 1, 10 ** 60):
        for slope in (1, 2, 3, 10 ** 49 + 7):
            for low in (0, -10 ** 50, 10 ** 50 + 1):
                other = (10 ** 49, -10 ** 30)
                yield other, place, slope, low, low + 10 ** 60


class UpAndDown(unittest.TestCase):
    def check(self, a, b):
        above, below = up(a, b), down(a, b)
        self.assertTrue((above - 1) * b < a <= above * b, (a, b, above))
        self.assertTrue(below * b <= a < (below + 1) * b, (a, b, below))
        self.assertEqual(above == below, a % b == 0)
        self.assertIs(type(above), int)
        self.assertIs(type(below), int)

    def test_small(self):
        for a in range(-40, 41):
            for b in range(1, 14):
                self.check(a, b)

    def test_known(self):
        self.assertEqual((up(7, 2), down(7, 2)), (4, 3))
        self.assertEqual((up(-7, 2), down(-7, 2)), (-3, -4))
        self.assertEqual((up(0, 5), down(0, 5)), (0, 0))
        self.assertEqual((up(-6, 3), down(-6, 3)), (-2, -2))

    def test_far(self):
        source = chance(2)
        for _ in range(500):
            a = far_number(source, source.randrange(40, 51))
            b = abs(far_number(source, source.randrange(40, 51)))
            for over in (a, a * b, a * b + 1, a * b - 1, 0, 1, -1):
                self.check(over, b)
                self.check(over, 1)
                self.check(over, 3)

    def test_hundreds_of_figures(self):
        for a in (10 ** 400 - 1, -10 ** 400 + 1, 10 ** 900 + 1):
            self.check(a, 10 ** 399 + 7)
            self.check(a, 7)


class LineAt(unittest.TestCase):
    def test_at_the_low_behind_it_and_ahead_of_it(self):
        self.assertEqual(line_at((10, 3), 4, 4), 10)
        self.assertEqual(line_at((10, 3), 4, 6), 16)
        self.assertEqual(line_at((10, 3), 4, 1), 1)
        self.assertEqual(line_at((10, -3), -4, -6), 16)
        self.assertEqual(line_at((-5, 0), 0, 10 ** 99), -5)

    def test_one_step_each(self):
        for low in (-3, 0, 10 ** 50):
            for price, step in ((0, 0), (7, 2), (-7, -2), (10 ** 49, -10 ** 48)):
                for x in range(low - 4, low + 5):
                    told = line_at((price, step), low, x)
                    self.assertEqual(told + step, line_at((price, step), low, x + 1))
                self.assertEqual(line_at((price, step), low, low), price)

    def test_far(self):
        n = 10 ** 400 - 1
        self.assertEqual(line_at((n, n), -n, n), n + 2 * n * n)
        self.assertEqual(line_at((n, -n), n, -n), n + 2 * n * n)


class NoDearer(unittest.TestCase):
    def check_far(self, one, other, low, high):
        told = no_dearer(one, other, low, high)

        def dearer(x):
            return line_at(one, low, x) > line_at(other, low, x)

        if told is None:
            # What is dearer at both ends is dearer all along, as both are straight.
            self.assertTrue(dearer(low) and dearer(high), (one, other, low, high))
            return
        self.assertIs(type(told), tuple)
        first, last = told
        self.assertTrue(low <= first <= last <= high)
        self.assertFalse(dearer(first) or dearer(last), (one, other, low, high))
        self.assertTrue(first == low or dearer(first - 1), (one, other, low, high))
        self.assertTrue(last == high or dearer(last + 1), (one, other, low, high))

    def test_one_by_one(self):
        for one, other, low, high in small_cases():
            amounts = [
                x for x in range(low, high + 1)
                if one[0] + one[1] * (x - low) <= other[0] + other[1] * (x - low)
            ]
            asked = (amounts[0], amounts[-1]) if amounts else None
            self.assertEqual(no_dearer(one, other, low, high), asked, (one, other, low, high))

    def test_known(self):
        self.assertEqual(no_dearer((5, 1), (5, 1), 3, 9), (3, 9))
        self.assertIsNone(no_dearer((6, 1), (5, 1), 3, 9))
        self.assertEqual(no_dearer((0, 2), (5, 0), 3, 9), (3, 5))
        self.assertEqual(no_dearer((5, 0), (0, 2), 3, 9), (6, 9))
        self.assertEqual(no_dearer((0, 2), (4, 0), 3, 9), (3, 5))
        self.assertEqual(no_dearer((4, 0), (0, 2), 3, 9), (5, 9))
        self.assertEqual(no_dearer((1, 9), (1, -9), 3, 3), (3, 3))
        self.assertIsNone(no_dearer((2, -9), (1, 9), 3, 3))

    def test_far(self):
        for one, other, low, high in far_cases():
            self.check_far(one, other, low, high)
            self.check_far(other, one, low, high)

    def test_far_meeting(self):
        for other, place, slope, low, high in meeting_cases():
            dearer_behind = (other[0] - slope * place, other[1] + slope)
            self.assertEqual(no_dearer(dearer_behind, other, low, high), (low, low + place))
            self.assertEqual(no_dearer(other, dearer_behind, low, high), (low + place, high))
            just_dearer = (dearer_behind[0] + 1, dearer_behind[1])
            asked = (low, low + place - 1) if place else None
            self.assertEqual(no_dearer(just_dearer, other, low, high), asked)
            cheaper_behind = (other[0] + slope * place + 1, other[1] - slope)
            asked = (low + place + 1, high) if low + place < high else None
            self.assertEqual(no_dearer(cheaper_behind, other, low, high), asked)

    def test_hundreds_of_figures(self):
        n = 10 ** 400 - 1
        self.check_far((n, -n), (-n, n), -n, n)
        self.assertEqual(no_dearer((n, -n), (-n, n), -n, n), (-n + 1, n))


class LowerLine(unittest.TestCase):
    def check_shape(self, rows, one, other, low, high):
        case = (one, other, low, high)
        self.assertIs(type(rows), list)
        self.assertIn(len(rows), (1, 2), case)
        self.assertEqual((rows[0][0], rows[-1][1]), (low, high), case)
        if len(rows) == 2:
            self.assertEqual(rows[1][0], rows[0][1] + 1, case)
        for row in rows:
            self.assertIs(type(row), tuple)
            first, last, price, step = row
            self.assertLessEqual(first, last, case)
            ends = (price, price + step * (last - first))
            on = [(line_at(line, low, first), line_at(line, low, last)) for line in (one, other)]
            self.assertIn(ends, on, case)
            for x, cost in zip((first, last), ends):
                self.assertEqual(cost, min(line_at(one, low, x), line_at(other, low, x)), case)

    def test_one_by_one(self):
        for one, other, low, high in small_cases():
            rows = lower_line(one, other, low, high)
            self.check_shape(rows, one, other, low, high)
            asked = {
                x: min(one[0] + one[1] * (x - low), other[0] + other[1] * (x - low))
                for x in range(low, high + 1)
            }
            self.assertEqual(costs_in(rows), asked, (one, other, low, high))

    def test_known(self):
        self.assertEqual(lower_line((0, 2), (5, 0), 3, 9), [(3, 5, 0, 2), (6, 9, 5, 0)])
        self.assertEqual(lower_line((5, 0), (0, 2), 3, 9), [(3, 5, 0, 2), (6, 9, 5, 0)])
        self.assertEqual(lower_line((6, 1), (5, 1), 3, 9), [(3, 9, 5, 1)])
        self.assertEqual(lower_line((5, 1), (6, 1), 3, 9), [(3, 9, 5, 1)])
        self.assertEqual(lower_line((5, 1), (5, 1), 3, 9), [(3, 9, 5, 1)])

    def test_far(self):
        for one, other, low, high in far_cases():
            self.check_shape(lower_line(one, other, low, high), one, other, low, high)

    def test_far_meeting(self):
        for other, place, slope, low, high in meeting_cases():
            for price in (-1, 0, 1):
                one = (other[0] - slope * place + price, other[1] + slope)
                self.check_shape(lower_line(one, other, low, high), one, other, low, high)
                self.check_shape(lower_line(other, one, low, high), other, one, low, high)

    def test_the_list_is_the_askers_own(self):
        for one, other in (((0, 2), (5, 0)), ((6, 1), (5, 1))):
            told = lower_line(one, other, 3, 9)
            kept = list(told)
            told.clear()
            self.assertEqual(lower_line(one, other, 3, 9), kept)


class SumOn(unittest.TestCase):
    def test_one_by_one(self):
        for price, step in SMALL_LINES + [(10 ** 50, -10 ** 49), (-10 ** 40, 10 ** 41)]:
            for many in range(0, 12):
                asked = sum(price + step * k for k in range(many))
                self.assertEqual(sum_on((price, step), many), asked)

    def test_none_and_one(self):
        for step in (-10 ** 50, -1, 0, 1, 10 ** 50):
            self.assertEqual(sum_on((7, step), 0), 0)
            self.assertEqual(sum_on((7, step), 1), 7)

    def test_far(self):
        source = chance(3)
        for many in (10 ** 50, 10 ** 50 - 1, 10 ** 25 + 1, 10 ** 400 - 1):
            for _ in range(50):
                price, step = far_number(source, 50), far_number(source, 50)
                told = sum_on((price, step), many)
                # The first and the last, the second and the last but one .. come to the same.
                self.assertEqual(2 * told, many * (2 * price + step * (many - 1)))
                self.assertEqual(sum_on((price, step), many + 1) - told, price + step * many)
                self.assertIs(type(told), int)
