import unittest

from helper import FAR_FORM, costs_in, small_forms
from offerhouse.errors import NotOffered
from offerhouse.forms import cost_at, how_many, least_amount, most_amount, spans_of

FORM = ((-4, -1, 9, -3), (0, 0, 7, 0), (2, 4, 1, 5), (5, 6, 0, 0), (9, 9, -8, 0))
FORMS = small_forms(5, (None, 0, 1, 3))
LONG = tuple((3 * k, 3 * k + 1, k * k, k) for k in range(1500))


class CostAt(unittest.TestCase):
    def test_known(self):
        asked = {
            -5: None, -4: 9, -3: 6, -1: 0, 0: 7, 1: None, 2: 1, 3: 6, 4: 11,
            5: 0, 6: 0, 7: None, 8: None, 9: -8, 10: None, 10 ** 50: None, -10 ** 50: None,
        }
        for x, cost in asked.items():
            self.assertEqual(cost_at(FORM, x), cost, x)

    def test_nothing_offered(self):
        for x in (-1, 0, 1, 10 ** 400):
            self.assertIsNone(cost_at((), x))

    def test_one_by_one(self):
        for form in FORMS:
            costs = costs_in(form)
            for x in range(-2, 8):
                self.assertEqual(cost_at(form, x), costs.get(x), (form, x))

    def test_long(self):
        costs = costs_in(LONG)
        for x in range(-2, 4502):
            self.assertEqual(cost_at(LONG, x), costs.get(x), x)

    def test_far(self):
        for low, high, price, step in FAR_FORM:
            for x in {low, (low + high) // 2, high}:
                self.assertEqual(cost_at(FAR_FORM, x), price + step * (x - low))
        for x in (-10 ** 60 - 1, 6, 8, 10 ** 400 + 1, 10 ** 401 - 1, 10 ** 401 + 1):
            self.assertIsNone(cost_at(FAR_FORM, x))


class SpansOf(unittest.TestCase):
    def test_known(self):
        self.assertEqual(spans_of(()), ())
        self.assertEqual(spans_of(((3, 3, 7, 0),)), ((3, 3),))
        self.assertEqual(spans_of(((0, 4, 5, 2), (5, 9, 0, 0))), ((0, 9),))
        self.assertEqual(spans_of(((0, 4, 5, 2), (6, 9, 0, 0))), ((0, 4), (6, 9)))
        self.assertEqual(spans_of(((0, 1, 0, 0), (2, 3, 5, 0), (4, 4, 0, 0))), ((0, 4),))
        self.assertEqual(spans_of(((-4, -1, 9, -3), (0, 0, 7, 0), (2, 2, 1, 0))), ((-4, 0), (2, 2)))

    def test_one_by_one(self):
        for form in FORMS:
            told = spans_of(form)
            self.assertIs(type(told), tuple)
            held = [x for low, high in told for x in range(low, high + 1)]
            self.assertEqual(held, sorted(costs_in(form)))
            self.assertTrue(all(type(span) is tuple and len(span) == 2 for span in told))
            self.assertTrue(all(row[0] >= ahead[1] + 2 for ahead, row in zip(told, told[1:])))

    def test_far(self):
        asked = ((-10 ** 60, 5), (7, 7), (9, 10 ** 400), (10 ** 401, 10 ** 401))
        self.assertEqual(spans_of(FAR_FORM), asked)

    def test_long(self):
        self.assertEqual(spans_of(LONG), tuple((3 * k, 3 * k + 1) for k in range(1500)))
        steps = tuple((2 * k, 2 * k + 1, 5 * k, 0) for k in range(1500))
        self.assertEqual(spans_of(steps), ((0, 2999),))


class Ends(unittest.TestCase):
    def test_known(self):
        self.assertEqual((least_amount(FORM), most_amount(FORM)), (-4, 9))
        self.assertEqual((least_amount(((3, 3, 7, 0),)), most_amount(((3, 3, 7, 0),))), (3, 3))
        self.assertEqual((least_amount(((0, 0, 0, 0),)), most_amount(((0, 0, 0, 0),))), (0, 0))
        self.assertEqual((least_amount(((-9, 8, 7, 1),)), most_amount(((-9, 8, 7, 1),))), (-9, 8))

    def test_one_by_one(self):
        for form in FORMS:
            if form:
                amounts = costs_in(form)
                self.assertEqual((least_amount(form), most_amount(form)), (min(amounts), max(amounts)))

    def test_far(self):
        self.assertEqual((least_amount(FAR_FORM), most_amount(FAR_FORM)), (-10 ** 60, 10 ** 401))

    def test_nothing_offered(self):
        for asked in (least_amount, most_amount):
            with self.assertRaises(NotOffered):
                asked(())


class HowMany(unittest.TestCase):
    def test_known(self):
        self.assertEqual(how_many(()), 0)
        self.assertEqual(how_many(((3, 3, 7, 0),)), 1)
        self.assertEqual(how_many(FORM), 11)

    def test_one_by_one(self):
        for form in FORMS + [LONG]:
            self.assertEqual(how_many(form), len(costs_in(form)))

    def test_far(self):
        self.assertEqual(how_many(((-10 ** 400, 10 ** 400, 0, 1),)), 2 * 10 ** 400 + 1)
        self.assertEqual(how_many(FAR_FORM), (10 ** 60 + 6) + 1 + (10 ** 400 - 8) + 1)


class AskedAgain(unittest.TestCase):
    def test_the_same_is_told(self):
        for asked in (spans_of, least_amount, most_amount, how_many):
            self.assertEqual(asked(FORM), asked(FORM))
        self.assertEqual([cost_at(FORM, 3) for _ in range(3)], [6, 6, 6])
