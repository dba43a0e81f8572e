import itertools
import unittest

from helper import FAR_FORM, costs_in, form_from
from offerhouse.forms import is_form


class IsForm(unittest.TestCase):
    def yes(self, *values):
        for value in values:
            self.assertIs(is_form(value), True, value)

    def no(self, *values):
        for value in values:
            self.assertIs(is_form(value), False, value)

    def test_the_empty_form(self):
        self.yes(())

    def test_one_stretch(self):
        self.yes(((0, 0, 5, 0),), ((-3, 9, 5, -2),), ((-3, 9, 5, 0),), ((-3, -2, -5, 7),))

    def test_low_above_high(self):
        self.no(((1, 0, 5, 0),), ((1, 0, 5, 2),), ((0, 4, 5, 1), (9, 8, 5, 0)))

    def test_each_low_is_above_the_high_ahead(self):
        self.yes(((0, 4, 5, 1), (6, 9, 5, 1)))
        self.no(
            ((0, 4, 5, 1), (4, 9, 5, 1)),
            ((0, 4, 5, 1), (4, 4, 5, 0)),
            ((0, 4, 5, 1), (3, 9, 5, 1)),
            ((0, 4, 5, 1), (0, 4, 5, 1)),
            ((6, 9, 5, 1), (0, 4, 5, 1)),
            ((0, 4, 5, 1), (-1, 9, 5, 1)),
            ((0, 0, 5, 0), (0, 0, 5, 0)),
        )

    def test_one_amount_alone_has_step_nought(self):
        self.yes(((4, 4, 5, 0),), ((4, 5, 5, 1),), ((0, 2, 5, 1), (4, 4, 5, 0)))
        self.no(((4, 4, 5, 1),), ((4, 4, 5, -1),), ((0, 2, 5, 1), (4, 4, 5, 1)))

    def test_a_neighbour_has_more_than_one_amount_ahead(self):
        self.yes(((4, 4, 5, 0), (6, 9, 7, 1)), ((3, 4, 5, 0), (5, 5, 7, 0)), ((3, 4, 5, 0), (5, 9, 7, 1)))
        self.no(((4, 4, 5, 0), (5, 9, 7, 1)), ((4, 4, 5, 0), (5, 5, 7, 0)), ((4, 4, 5, 0), (5, 9, 5, 0)))
        self.no(((0, 2, 9, 1), (3, 3, 5, 0), (4, 9, 0, 0)))

    def test_a_neighbour_does_not_lie_on_the_line_ahead(self):
        self.yes(((0, 4, 5, 2), (5, 9, 16, 2)), ((0, 4, 5, 2), (5, 9, 14, 2)), ((0, 4, 5, 2), (6, 9, 17, 2)))
        self.no(((0, 4, 5, 2), (5, 9, 15, 2)), ((0, 4, 5, 2), (5, 9, 15, 0)), ((0, 4, 5, 2), (5, 5, 15, 0)))
        self.no(((-9, -8, 1, 0), (0, 4, 5, -2), (5, 9, -5, 3)))

    def test_a_break_in_any_place(self):
        rows = [(10 * k, 10 * k + 9, k * k, k) for k in range(8)]
        self.yes(tuple(rows))
        for place in range(8):
            low, high, price, step = rows[place]
            for wrong in ((low, high, price, True), (high, low, price, step), [low, high, price, step], None):
                self.no(tuple(rows[:place] + [wrong] + rows[place + 1:]))

    def test_other_kinds(self):
        self.no(None, True, False, 0, 1, 10 ** 50, -3, 1.5, "", "form", "abcd", b"", [], {}, set(), object(), int)
        self.no([(0, 1, 2, 3)], {(0, 1, 2, 3): True}, (0, 1, 2, 3), range(0), iter(()), lambda: ())

    def test_other_kinds_for_a_stretch(self):
        for wrong in (None, 5, True, "abcd", "", b"abcd", 1.5, [0, 1, 2, 3], {0: 1}, (), object(), ((0, 1, 2, 3),)):
            self.no((wrong,), ((-9, -7, 0, 0), wrong), (wrong, (7, 9, 0, 0)))

    def test_as_many_numbers_as_four(self):
        self.no(((0, 0, 0),), ((0, 0, 0, 0, 0),), ((0, 1, 2),), ((0, 1, 2, 3, 4),), ((0,),), ((0, 1),))

    def test_other_kinds_for_a_number(self):
        for place in range(4):
            for wrong in (None, True, False, "1", "", 1.0, 0.0, (1,), [1], object(), float("nan")):
                for row in ([0, 1, 2, 3], [0, 0, 0, 0], [1, 1, 1, 0]):
                    row[place] = wrong
                    self.no((tuple(row),), ((-9, -7, 0, 0), tuple(row)))

    def test_far(self):
        self.yes(FAR_FORM)
        n = 10 ** 400
        self.yes(((-n, n, n, -n), (n + 1, n + 1, 0, 0)), ((-n, n, n, n), (n + 1, n + 2, 2 * n + 2 * n * n + 1, n)))
        self.no(((-n, n, n, n), (n + 1, n + 2, 2 * n + 2 * n * n, n)))

    def test_any_length(self):
        long = tuple((3 * k, 3 * k + 1, k, 1) for k in range(60000))
        self.yes(long)
        self.no(long + ((5, 6, 0, 0),), long + (None,))

    def test_against_the_form_built_one_by_one(self):
        rows = [
            (low, high, price, step)
            for low in range(0, 4) for high in range(low, 4) for price in (0, 1) for step in (-1, 0, 1)
        ]
        for count in (1, 2, 3):
            for value in itertools.product(rows, repeat=count):
                ascending = all(ahead[1] < row[0] for ahead, row in zip(value, value[1:]))
                asked = ascending and value == form_from(costs_in(value))
                self.assertIs(is_form(value), asked, value)

    def test_nothing_is_changed(self):
        inner = [0, 1, 2, 3]
        value = [inner, (4, 5, 6, 7)]
        self.no(value, (inner,))
        self.assertEqual(value, [[0, 1, 2, 3], (4, 5, 6, 7)])
