import unittest

from offerhouse import errors

NAMES = (
    "NotOffered", "TooMany", "BadRule", "BadName", "BadLine",
    "NoOffer", "Twice", "Ring", "Leaned", "NothingBack",
)
CLASSES = [getattr(errors, name) for name in NAMES]


class Errors(unittest.TestCase):
    def test_any_refusal_is_a_value_error(self):
        self.assertEqual(errors.OfferError.__bases__, (ValueError,))

    def test_each_stands_straight_under_offer_error(self):
        for one in CLASSES:
            with self.subTest(one=one):
                self.assertEqual(one.__bases__, (errors.OfferError,))

    def test_none_stands_under_another_one(self):
        self.assertEqual(len(set(CLASSES)), 10)
        for one in CLASSES:
            for other in CLASSES:
                if one is not other:
                    self.assertFalse(issubclass(one, other))

    def test_each_bears_its_name_and_is_taken_as_any_refusal(self):
        for name, one in zip(NAMES, CLASSES):
            self.assertEqual(one.__name__, name)
            for kind in (one, errors.OfferError, ValueError):
                with self.assertRaises(kind):
                    raise one("words")
