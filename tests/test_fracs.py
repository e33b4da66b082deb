"""Point 2: fractions."""

import unittest
from fractions import Fraction

from reels import fracs
from tests.helper import exact, pair

NUMBERS = (0, 1, -1, 2, -2, 3, 6, -6, 12, 35, 60, -97, 10**9, -(10**9) + 7, 2**70, 3**50)
FRACTIONS = sorted({Fraction(top, bottom) for top in NUMBERS for bottom in NUMBERS if bottom})


class MadeTest(unittest.TestCase):
    def test_by_hand(self):
        rows = [
            ((1, 2), (1, 2)), ((2, 4), (1, 2)), ((6, 3), (2, 1)), ((5, 1), (5, 1)),
            ((1, -2), (-1, 2)), ((-1, -2), (1, 2)), ((-6, 4), (-3, 2)), ((6, -4), (-3, 2)),
            ((0, 1), (0, 1)), ((0, 7), (0, 1)), ((0, -7), (0, 1)), ((-4, -4), (1, 1)),
        ]
        for (top, bottom), expected in rows:
            with self.subTest(top=top, bottom=bottom):
                self.assertEqual(fracs.made(top, bottom), expected)

    def test_is_the_fraction_in_lowest_terms(self):
        for top in NUMBERS:
            for bottom in NUMBERS:
                if bottom:
                    self.assertEqual(fracs.made(top, bottom), pair(top, bottom))


class ReckoningTest(unittest.TestCase):
    def check_pair(self, told, expected):
        self.assertIsInstance(told, tuple)
        self.assertEqual(told, (expected.numerator, expected.denominator))
        self.assertEqual([type(number) for number in told], [int, int])

    def test_by_hand(self):
        self.assertEqual(fracs.added((1, 2), (1, 3)), (5, 6))
        self.assertEqual(fracs.added((1, 6), (1, 3)), (1, 2))
        self.assertEqual(fracs.less((1, 3), (1, 2)), (-1, 6))
        self.assertEqual(fracs.less((2, 3), (2, 3)), (0, 1))
        self.assertEqual(fracs.timed((2, 3), (3, 4)), (1, 2))
        self.assertEqual(fracs.timed((0, 1), (3, 4)), (0, 1))
        self.assertEqual(fracs.over((2, 3), (4, 3)), (1, 2))
        self.assertEqual(fracs.over((2, 3), (-4, 3)), (-1, 2))
        self.assertEqual(fracs.over((0, 1), (-4, 3)), (0, 1))

    def test_two_of_many(self):
        for one in FRACTIONS:
            for two in FRACTIONS:
                left, right = pair(one), pair(two)
                self.check_pair(fracs.added(left, right), one + two)
                self.check_pair(fracs.less(left, right), one - two)
                self.check_pair(fracs.timed(left, right), one * two)
                if two:
                    self.check_pair(fracs.over(left, right), one / two)

    def test_which_is_less(self):
        for one in FRACTIONS:
            for two in FRACTIONS:
                self.assertIs(fracs.is_below(pair(one), pair(two)), one < two)

    def test_smaller_and_larger(self):
        for one in FRACTIONS:
            for two in FRACTIONS:
                left, right = pair(one), pair(two)
                self.assertEqual(exact(fracs.smaller(left, right)), min(one, two))
                self.assertEqual(exact(fracs.larger(left, right)), max(one, two))

    def test_over_one_bottom(self):
        self.assertEqual(fracs.common_bottom([]), 1)
        self.assertEqual(fracs.common_bottom([(5, 1), (0, 1)]), 1)
        self.assertEqual(fracs.common_bottom([(1, 6), (-3, 4), (1, 9)]), 36)
        self.assertEqual([fracs.scaled(one, 36) for one in ((1, 6), (-3, 4), (1, 9), (2, 1), (0, 1))],
                         [6, -27, 4, 72, 0])
        bottom = fracs.common_bottom([pair(one) for one in FRACTIONS])
        for one in FRACTIONS:
            self.assertEqual(fracs.scaled(pair(one), bottom), one * bottom)


if __name__ == "__main__":
    unittest.main()
