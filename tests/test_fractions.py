"""Fractions: [4], and [2] as far as it speaks of them."""

import math
import unittest
from fractions import Fraction

from chartscribe.errors import NoFraction
from chartscribe.fractions import floor_of, fraction, is_fraction, is_less, less, nearest, over, plus, times

THIRTY = 123456789012345678901234567890
MOST = 10 ** 30 - 1
# Fractions in lowest terms: of either sign, whole, small and great.
SOME = [
    (0, 1), (1, 1), (-1, 1), (2, 1), (-2, 1), (1, 2), (-1, 2), (3, 2), (-3, 2), (1, 3), (-1, 3),
    (2, 3), (-2, 3), (5, 6), (-5, 6), (7, 4), (-7, 4), (10, 1), (1, 10), (-999, 1000), (355, 113),
    (THIRTY, 1), (-THIRTY, 1), (1, THIRTY), (MOST, 2), (-MOST, 2), (MOST, MOST - 1), (1 - MOST, MOST),
    (10 ** 29 + 1, 10 ** 29), (-1, MOST),
]


def pair(worth):
    """The tuple of a fraction of the standard library."""
    return (worth.numerator, worth.denominator)


class FractionCase(unittest.TestCase):
    def assert_fraction(self, told, worth):
        self.assertIs(type(told), tuple)
        self.assertEqual([type(part) for part in told], [int, int])
        self.assertGreaterEqual(told[1], 1)
        self.assertEqual(math.gcd(*told), 1)
        self.assertEqual(told, pair(worth))


class TestFraction(FractionCase):
    def test_plain_ones(self):
        self.assertEqual(fraction(3, 4), (3, 4))
        self.assertEqual(fraction(5, 1), (5, 1))

    def test_parts_that_share_divisors(self):
        self.assertEqual(fraction(6, 4), (3, 2))
        self.assertEqual(fraction(12, 4), (3, 1))
        self.assertEqual(fraction(4, 12), (1, 3))
        self.assertEqual(fraction(7, 7), (1, 1))
        self.assertEqual(fraction(360, 84), (30, 7))

    def test_either_sign_of_either_part(self):
        self.assertEqual(fraction(6, 4), (3, 2))
        self.assertEqual(fraction(-6, 4), (-3, 2))
        self.assertEqual(fraction(6, -4), (-3, 2))
        self.assertEqual(fraction(-6, -4), (3, 2))

    def test_a_first_0(self):
        for bottom in (1, -1, 2, -7, MOST, -MOST):
            with self.subTest(bottom):
                self.assertEqual(fraction(0, bottom), (0, 1))

    def test_all_small_ones(self):
        for top in range(-30, 31):
            for bottom in [*range(-30, 0), *range(1, 31)]:
                self.assert_fraction(fraction(top, bottom), Fraction(top, bottom))

    def test_parts_of_thirty_figures(self):
        parts = [MOST, -MOST, MOST - 1, THIRTY, -THIRTY, 10 ** 29, -(6 ** 38), 15 ** 25]
        for top in parts:
            for bottom in parts:
                self.assert_fraction(fraction(top, bottom), Fraction(top, bottom))

    def test_a_second_0_is_refused(self):
        for top in (0, 1, -1, MOST, -MOST):
            with self.subTest(top):
                with self.assertRaises(NoFraction):
                    fraction(top, 0)

    def test_what_is_no_whole_number_is_refused(self):
        for wrong in (True, False, None, "1", 1.0, 0.5, [1], (1, 2), {}, b"1"):
            with self.subTest(wrong):
                with self.assertRaises(NoFraction):
                    fraction(wrong, 2)
                with self.assertRaises(NoFraction):
                    fraction(2, wrong)


class TestIsFraction(unittest.TestCase):
    def test_fractions(self):
        for one in SOME:
            self.assertIs(is_fraction(one), True)
        self.assertIs(is_fraction((10 ** 5000, 10 ** 5000 + 1)), True)

    def test_other_things(self):
        for thing in [None, 1, "12", True, [1, 2], (), (1,), (1, 2, 3), (2, 4), (0, 2), (1, 0), (0, 0), (1, -2),
                      (-1, -2), (True, 1), (0, True), (False, 1), (1.0, 1), (1, 1.0), ("1", "2"), (None, 1),
                      (MOST, MOST)]:
            with self.subTest(thing):
                self.assertIs(is_fraction(thing), False)


class TestReckoned(FractionCase):
    def test_by_hand(self):
        self.assertEqual(plus((1, 2), (1, 3)), (5, 6))
        self.assertEqual(plus((1, 6), (1, 3)), (1, 2))
        self.assertEqual(plus((1, 2), (-1, 2)), (0, 1))
        self.assertEqual(less((1, 2), (1, 3)), (1, 6))
        self.assertEqual(less((1, 3), (1, 2)), (-1, 6))
        self.assertEqual(less((5, 7), (5, 7)), (0, 1))
        self.assertEqual(times((2, 3), (3, 4)), (1, 2))
        self.assertEqual(times((-2, 3), (0, 1)), (0, 1))
        self.assertEqual(over((1, 2), (3, 4)), (2, 3))
        self.assertEqual(over((1, 2), (-3, 4)), (-2, 3))
        self.assertEqual(over((0, 1), (-3, 4)), (0, 1))
        self.assertEqual(over((-3, 4), (-3, 4)), (1, 1))

    def test_each_with_each(self):
        for one in SOME:
            for other in SOME:
                a, b = Fraction(*one), Fraction(*other)
                self.assert_fraction(plus(one, other), a + b)
                self.assert_fraction(less(one, other), a - b)
                self.assert_fraction(times(one, other), a * b)
                if other != (0, 1):
                    self.assert_fraction(over(one, other), a / b)

    def test_over_0_is_refused(self):
        for one in SOME:
            with self.subTest(one):
                with self.assertRaises(NoFraction):
                    over(one, (0, 1))


class TestIsLess(unittest.TestCase):
    def test_by_hand(self):
        self.assertIs(is_less((1, 3), (1, 2)), True)
        self.assertIs(is_less((1, 2), (1, 3)), False)
        self.assertIs(is_less((-1, 2), (-1, 3)), True)
        self.assertIs(is_less((-1, 3), (-1, 2)), False)
        self.assertIs(is_less((-1, 2), (0, 1)), True)
        self.assertIs(is_less((0, 1), (0, 1)), False)

    def test_each_with_each(self):
        for one in SOME:
            for other in SOME:
                self.assertIs(is_less(one, other), Fraction(*one) < Fraction(*other))


class TestWhole(unittest.TestCase):
    def test_floor_of_by_hand(self):
        told = {
            (0, 1): 0, (1, 2): 0, (-1, 2): -1, (3, 2): 1, (-3, 2): -2, (5, 1): 5, (-5, 1): -5,
            (99, 100): 0, (-99, 100): -1, (-1, 100): -1, (MOST, 2): MOST // 2, (-MOST, 2): -(MOST // 2) - 1,
        }
        for one, whole in told.items():
            with self.subTest(one):
                self.assertEqual(floor_of(one), whole)

    def test_nearest_by_hand(self):
        told = {
            (0, 1): 0, (1, 2): 1, (-1, 2): 0, (3, 2): 2, (-3, 2): -1, (5, 2): 3, (-5, 2): -2,
            (5, 1): 5, (-5, 1): -5, (1, 3): 0, (-1, 3): 0, (2, 3): 1, (-2, 3): -1,
            (49, 100): 0, (51, 100): 1, (-49, 100): 0, (-51, 100): -1,
            (MOST, 2): MOST // 2 + 1, (-MOST, 2): -(MOST // 2),
        }
        for one, whole in told.items():
            with self.subTest(one):
                self.assertEqual(nearest(one), whole)

    def test_all_of_some(self):
        for one in SOME:
            self.assertIs(type(floor_of(one)), int)
            self.assertEqual(floor_of(one), math.floor(Fraction(*one)))
            self.assertIs(type(nearest(one)), int)
            self.assertEqual(nearest(one), math.floor(Fraction(*one) + Fraction(1, 2)))


class TestHandedInAgain(FractionCase):
    def test_what_is_told_may_be_handed_in_again_however_great(self):
        one = (3 ** 60, 2 ** 90)
        for _ in range(8):
            one = times(one, one)
        top, bottom = one
        self.assertGreater(bottom, 10 ** 5000)
        self.assert_fraction(one, Fraction(3, 1) ** (60 * 256) / Fraction(2, 1) ** (90 * 256))
        self.assertEqual(less(plus(one, (1, 3)), one), (1, 3))
        self.assertEqual(over(one, one), (1, 1))
        self.assertEqual(fraction(top, bottom), one)
        self.assertIs(is_less(one, plus(one, (1, THIRTY))), True)
        self.assertEqual(floor_of(one), top // bottom)
        self.assertEqual(nearest(over((1, 1), one)), math.floor(Fraction(bottom, top) + Fraction(1, 2)))


if __name__ == "__main__":
    unittest.main()
