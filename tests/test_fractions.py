import unittest
from copy import deepcopy
from fractions import Fraction
from random import Random

from poolhopes.fractions import cut_to, fraction_of, is_fraction, is_not_more, product_of, total_of
from tests.brute import pair_of
from tests.checks import check_bool
from tests.money import HUGE, large, share_of
from tests.samples import junk, twists


def random_fraction(source, digits):
    """Return a random Fraction with integers of at most so many digits."""
    top = source.choice((0, 1, source.randrange(10 ** digits)))
    return source.choice((1, -1)) * Fraction(top, source.choice((1, 1 + source.randrange(10 ** digits - 1))))


class FractionCase(unittest.TestCase):
    def check(self, found, expected):
        """Check that a fraction in lowest terms was returned, with this value."""
        self.assertEqual(found, pair_of(expected))
        self.assertEqual([type(found)] + [type(number) for number in found], [tuple, int, int])


class FractionsTest(FractionCase):
    def test_lowest_terms(self):
        for top in range(-12, 13):
            for bottom in range(-12, 13):
                good = bottom > 0 and Fraction(top, bottom).denominator == bottom
                check_bool(self, good, is_fraction, (top, bottom))
                if bottom != 0:
                    self.check(fraction_of(top, bottom), Fraction(top, bottom))

    def test_large_integers(self):
        huge = 10 ** 999
        self.assertEqual(fraction_of(6 * huge, -4 * huge), (-3, 2))
        self.assertEqual(fraction_of(huge + 1, huge), (huge + 1, huge))
        self.assertEqual(fraction_of(0, -huge), (0, 1))
        check_bool(self, True, is_fraction, (-huge - 1, huge))
        check_bool(self, False, is_fraction, (2 * huge, 3 * huge))
        check_bool(self, True, is_fraction, (10 ** 3999 + 1, 10 ** 3999))
        check_bool(self, False, is_fraction, (10 ** 3999, 10 ** 3999))

    def test_zero(self):
        check_bool(self, True, is_fraction, (0, 1))
        for value in ((0, 2), (0, 0), (0, -1), (1, 0), (-1, 0), (1, -1), (-1, -1)):
            check_bool(self, False, is_fraction, value)
        for bottom in (1, -1, 7, -HUGE, HUGE):
            self.assertEqual(fraction_of(0, bottom), (0, 1))

    def test_other_values(self):
        for value in junk() + large() + twists((1, 2)) + twists((0, 1)) + twists((-1, 3)) + [
                (1,), (1, 2, 3), [1, 2], (True, 2), (1, True), (False, 1), ((1, 2), (1, 2)), {1: 2}, "12", ("1", "2")]:
            check_bool(self, False, is_fraction, value)


class TotalTest(FractionCase):
    def check_total(self, *some):
        given = list(some)
        self.check(total_of(given), sum([share_of(one) for one in some], Fraction(0)))
        self.assertEqual(given, list(some))

    def test_examples(self):
        self.assertEqual(total_of([(1, 2), (-1, 3)]), (1, 6))
        self.assertEqual(product_of((2, 3), (3, 4)), (1, 2))
        self.assertEqual(fraction_of(4, -6), (-2, 3))

    def test_short_lists(self):
        self.assertEqual(total_of([]), (0, 1))
        self.check_total((0, 1))
        self.check_total((-7, 3))
        self.check_total((1, 2), (-1, 2))
        self.check_total((1, 6), (1, 3), (1, 2))
        self.check_total((1, 2), (1, 2), (1, 2), (1, 2))
        self.check_total((1, 3), (-1, 2), (1, 3), (1, 6), (-5, 1))

    def test_random_lists(self):
        source = Random(80)
        for digits in (1, 2, 60, 1000):
            for _ in range(30):
                some = [pair_of(random_fraction(source, digits)) for _ in range(source.randint(0, 9))]
                self.check_total(*some)

    def test_huge_fractions_that_leave_little(self):
        self.check_total((HUGE + 1, HUGE), (-HUGE - 1, HUGE))
        self.check_total((1, HUGE), (-1, HUGE + 1))
        self.check_total((HUGE, 3), (-HUGE, 3), (1, 3))

    def test_long_lists(self):
        self.assertEqual(total_of([(1, 2), (-1, 3)] * 25000), pair_of(Fraction(25000, 6)))
        self.assertEqual(total_of([(1, 1)] * 60000), (60000, 1))
        # 1 / (k * (k + 1)) is 1 / k less 1 / (k + 1), so that a sum of all of them can be told.
        self.assertEqual(total_of([(1, k * (k + 1)) for k in range(1, 2000)]), (1999, 2000))
        source = Random(81)
        some = [random_fraction(source, 1000) for _ in range(40)]
        self.check(total_of([pair_of(one) for one in some]), sum(some, Fraction(0)))


class PairsTest(FractionCase):
    def test_products(self):
        source = Random(82)
        for digits in (1, 2, 60, 1000):
            for _ in range(100):
                one, other = random_fraction(source, digits), random_fraction(source, digits)
                self.check(product_of(pair_of(one), pair_of(other)), one * other)
        self.assertEqual(product_of((0, 1), (-HUGE, 7)), (0, 1))
        self.assertEqual(product_of((-3, HUGE), (HUGE, 3)), (-1, 1))

    def test_order(self):
        check_bool(self, True, is_not_more, (1, 3), (1, 2))
        small = [Fraction(top, bottom) for top in range(-4, 5) for bottom in range(1, 5)]
        for one in small:
            for other in small:
                check_bool(self, one <= other, is_not_more, pair_of(one), pair_of(other))
        check_bool(self, True, is_not_more, (HUGE, HUGE + 1), (HUGE + 1, HUGE + 2))
        check_bool(self, False, is_not_more, (HUGE + 1, HUGE + 2), (HUGE, HUGE + 1))
        check_bool(self, True, is_not_more, (-HUGE, 7), (-HUGE, 7))

    def test_cut(self):
        self.assertEqual(cut_to((7, 2), (0, 1), (3, 1)), (3, 1))
        small = sorted({Fraction(top, bottom) for top in range(-3, 4) for bottom in range(1, 4)})
        for low in small:
            for high in [share for share in small if share >= low]:
                for value in small:
                    found = cut_to(pair_of(value), pair_of(low), pair_of(high))
                    self.check(found, max(low, min(high, value)))
        self.assertEqual(cut_to((HUGE, 3), (-HUGE, 3), (HUGE - 1, 3)), (HUGE - 1, 3))
        self.assertEqual(cut_to((-HUGE, 3), (1 - HUGE, 3), (0, 1)), (1 - HUGE, 3))

    def test_nothing_is_changed(self):
        some = [(1, 2), (3, 4), (1, 2)]
        before = deepcopy(some)
        total_of(some)
        self.assertEqual(some, before)


if __name__ == "__main__":
    unittest.main()
