import unittest
from fractions import Fraction

from poolhopes.fractions import fraction_of, is_fraction
from tests.checks import check_bool
from tests.samples import junk, twists


class FractionsTest(unittest.TestCase):
    def test_lowest_terms(self):
        for top in range(-12, 13):
            for bottom in range(-12, 13):
                good = bottom > 0 and Fraction(top, bottom).denominator == bottom
                check_bool(self, good, is_fraction, (top, bottom))
                if bottom != 0:
                    share = Fraction(top, bottom)
                    found = fraction_of(top, bottom)
                    self.assertEqual(found, (share.numerator, share.denominator))
                    self.assertEqual([type(found)] + [type(number) for number in found], [tuple, int, int])

    def test_large_integers(self):
        huge = 10 ** 999
        self.assertEqual(fraction_of(6 * huge, -4 * huge), (-3, 2))
        self.assertEqual(fraction_of(huge + 1, huge), (huge + 1, huge))
        check_bool(self, True, is_fraction, (-huge - 1, huge))
        check_bool(self, False, is_fraction, (2 * huge, 3 * huge))

    def test_other_values(self):
        for value in junk() + twists((1, 2)) + twists((0, 1)) + [(1,), (1, 2, 3), [1, 2], (True, 2), (1, True)]:
            check_bool(self, False, is_fraction, value)


if __name__ == "__main__":
    unittest.main()
