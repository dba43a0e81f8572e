import unittest

from helper import FAR_FORM, costs_in, small_forms
from offerhouse.forms import first_unlike, is_form, laid


class FirstUnlike(unittest.TestCase):
    def check(self, one, other, asked):
        self.assertTrue(is_form(one) and is_form(other), (one, other))
        self.assertEqual(first_unlike(one, other), asked, (one, other))
        self.assertEqual(first_unlike(other, one), asked, (other, one))

    def test_the_same(self):
        for form in ((), ((3, 3, 7, 0),), ((0, 4, 5, 2), (5, 9, 0, 0)), FAR_FORM):
            self.assertIsNone(first_unlike(form, form))
            self.assertIsNone(first_unlike(form, laid(list(form))))

    def test_nothing_offered(self):
        self.check((), ((3, 3, 7, 0),), 3)
        self.check((), ((-3, 9, 7, 1), (12, 12, 0, 0)), -3)
        self.check((), FAR_FORM, -10 ** 60)

    def test_an_amount_left_out(self):
        form = ((0, 9, 5, 2),)
        self.check(form, ((1, 9, 7, 2),), 0)
        self.check(form, ((0, 0, 5, 0), (2, 9, 9, 2)), 1)
        self.check(form, ((0, 3, 5, 2), (5, 9, 15, 2)), 4)
        self.check(form, ((0, 8, 5, 2),), 9)

    def test_cut_short_or_ended(self):
        self.check(((0, 9, 5, 2),), ((0, 5, 5, 2),), 6)
        self.check(((0, 9, 5, 0),), ((0, 0, 5, 0),), 1)
        self.check(((0, 9, 5, 2),), ((0, 0, 5, 0),), 1)
        self.check(((0, 9, 5, 2), (12, 14, 0, 0)), ((0, 9, 5, 2),), 12)
        self.check(((0, 9, 5, 2), (10, 14, 0, 0)), ((0, 9, 5, 2),), 10)

    def test_moved_by_one(self):
        self.check(((0, 9, 5, 2),), ((1, 10, 5, 2),), 0)
        self.check(((0, 9, 5, 2),), ((-1, 8, 5, 2),), -1)
        self.check(((-9, -9, 1, 0), (0, 0, 5, 0)), ((-9, -9, 1, 0), (1, 1, 5, 0)), 0)

    def test_dearer(self):
        self.check(((0, 9, 5, 2),), ((0, 9, 6, 2),), 0)
        self.check(((3, 3, 5, 0),), ((3, 3, -5, 0),), 3)
        self.check(((0, 4, 5, 2), (5, 9, 0, 0)), ((0, 4, 5, 2), (5, 9, 1, 0)), 5)

    def test_another_step(self):
        self.check(((0, 9, 5, 2),), ((0, 9, 5, 3),), 1)
        self.check(((0, 9, 5, 0),), ((0, 9, 5, -1),), 1)
        self.check(((0, 4, 5, 2), (5, 9, 0, 0)), ((0, 4, 5, 2), (5, 9, 0, 1)), 6)

    def test_another_course_behind_a_shared_beginning(self):
        self.check(((0, 4, 5, 2), (5, 9, 0, 0)), ((0, 9, 5, 2),), 5)
        self.check(((0, 4, 5, 2), (5, 9, 0, 0)), ((0, 5, 5, 2), (6, 9, 0, 0)), 5)
        self.check(((0, 4, 5, 2), (7, 9, 0, 0)), ((0, 4, 5, 2), (6, 9, 0, 0)), 6)

    def test_one_by_one(self):
        forms = small_forms(4, (None, 0, 1, 3))
        costs = [costs_in(form) for form in forms]
        for one, mine in zip(forms, costs):
            for other, yours in zip(forms, costs):
                unlike = [x for x in range(4) if mine.get(x) != yours.get(x)]
                asked = unlike[0] if unlike else None
                self.assertEqual(first_unlike(one, other), asked, (one, other))

    def test_far(self):
        n = 10 ** 400
        self.check(((-n, n, 5, n),), ((-n, n - 1, 5, n),), n)
        self.check(((-n, n, 5, n),), ((-n, n, 5, n + 1),), 1 - n)
        self.check(((-n, n, 5, n),), ((1 - n, n, 5 + n, n),), -n)
        self.check(FAR_FORM, FAR_FORM[:-1], 10 ** 401)
        self.check(FAR_FORM, FAR_FORM[:-1] + ((10 ** 401, 10 ** 401, 6, 0),), 10 ** 401)
        self.check(FAR_FORM, FAR_FORM[1:], -10 ** 60)

    def test_long(self):
        form = tuple((3 * k, 3 * k + 1, k * k, k) for k in range(1000))
        self.check(form, form[:-1], 2997)
        self.check(form, form[:500] + form[501:], 1500)
        self.check(form, form[:-1] + ((2997, 2998, 999 * 999, 998),), 2998)
        self.assertIsNone(first_unlike(form, tuple(list(form))))
