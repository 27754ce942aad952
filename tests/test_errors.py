"""The refusals: their family and their values."""

import unittest

from learnprices import errors
from learnprices.errors import PriceError

VALUES = {"BadSeller": "number", "BadBuyer": "number", "BadPrices": "good", "BadCount": None, "TooMany": None,
          "BadDealing": "buyer", "NoBuyer": "number", "BadDeed": "number", "BadText": "row"}


class ErrorsTest(unittest.TestCase):
    def test_any_refusal_is_a_value_error(self):
        self.assertEqual(PriceError.__bases__, (ValueError,))
        self.assertEqual(PriceError.__module__, "learnprices.errors")

    def test_none_is_under_another_one(self):
        for name in VALUES:
            with self.subTest(name=name):
                error = getattr(errors, name)
                self.assertEqual(error.__bases__, (PriceError,))
                self.assertEqual(error.__module__, "learnprices.errors")

    def test_each_is_made_with_its_value_by_its_name(self):
        for name, value in VALUES.items():
            if value is None:
                continue
            with self.subTest(name=name):
                error = getattr(errors, name)
                self.assertEqual(vars(error(**{value: 3})), {value: 3})
                self.assertEqual(vars(error(3)), {value: 3})
                self.assertRaises(TypeError, error)

    def test_counts_have_no_value(self):
        self.assertEqual(vars(errors.BadCount()), {})
        self.assertEqual(vars(errors.TooMany()), {})

    def test_a_number_of_many_figures_is_kept(self):
        self.assertEqual(errors.NoBuyer(number=10 ** 6000).number, 10 ** 6000)
        self.assertEqual(errors.BadPrices(good=10 ** 6000).good, 10 ** 6000)
