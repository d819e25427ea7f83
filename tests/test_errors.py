"""Point 29: the errors."""

import unittest

from pairmart import errors

NAMES = ("BadWish", "BadRoom", "BadMatch", "BadPaper", "BadSize", "BadText", "BadStore", "NoSuch", "BadDeed")


class Errors(unittest.TestCase):

    def test_market_fault_is_a_value_error(self):
        self.assertEqual(errors.MarketFault.__bases__, (ValueError,))

    def test_all_stand_under_market_fault_and_none_under_another(self):
        for name in NAMES:
            self.assertEqual(getattr(errors, name).__bases__, (errors.MarketFault,), name)

    def test_none_catches_another(self):
        for name in NAMES:
            for other in NAMES:
                self.assertEqual(issubclass(getattr(errors, name), getattr(errors, other)), name == other)

    def test_they_carry_their_words(self):
        for name in NAMES + ("MarketFault",):
            with self.assertRaises(ValueError) as caught:
                raise getattr(errors, name)("so it is")
            self.assertEqual(str(caught.exception), "so it is")


if __name__ == "__main__":
    unittest.main()
