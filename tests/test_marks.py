"""Round marks: [6], [7], and [2] and [3] as far as they speak of them."""

import math
import unittest
from bisect import bisect_left
from fractions import Fraction

from chartscribe.marks import is_round, marks_of, next_round, step_of

# All round fractions that these tests meet, rising, found by their definition alone.
ROUND = [lead * Fraction(10) ** power for power in range(-75, 75) for lead in (1, 2, 5)]
# Those of a millionth of a millionth to 10 ** 20.
NEAR_ROUND = [worth for worth in ROUND if Fraction(1, 10 ** 12) <= worth <= 10 ** 20]
THIRTY = 123456789012345678901234567890
MOST = 10 ** 30 - 1
MANY_FIGURES = [
    (123456789, 1), (987654321012345678, 1), (THIRTY, 1), (MOST, 1), (10 ** 29, 1), (10 ** 29 + 1, 1), (1, MOST),
    (1, THIRTY), (123456789, 10 ** 12), (1234567890123457, 10 ** 9), (999999999999, 10 ** 6), (355, 113), (2, 3),
    (1, 7), (1, 3), (22, 7), (THIRTY + 1, 10 ** 29), (MOST, MOST - 1), (MOST - 1, MOST), (19, 10), (21, 10),
    (49, 10), (51, 10), (99, 10), (101, 10), (1000001, 1000000), (999999, 1000000), (7, 5 ** 30), (7, 2 ** 90),
]
MOSTS = (3, 4, 5, 12, 21, 40)
# Pairs of a low and a high, the low less.
APART = [
    (Fraction(low), Fraction(high)) for low, high in [
        # near to one another, and on either side of a mark
        ("4", "6"), ("4", "5"), ("9", "11"), ("99", "101"), ("0.9", "1.1"), ("9.99", "10.01"), ("19", "21"), ("5", "6"),
        ("999999", "1000000"), ("999999", "1000001"), ("1000000", "1000000.000001"), ("-6", "-4"), ("-11", "-9"),
        ("123456789.123456", "123456789.123457"), ("-1000001", "-999999"), ("49.999999", "50.000001"),
        # far from one another
        ("1", "999999999999"), ("0.000001", "999999999999"), ("-999999999999", "-0.000001"), ("3", "1000"), ("7", "93"),
        # one of them 0
        ("0", "1"), ("0", "2"), ("0", "3"), ("0", "5"), ("0", "7"), ("0", "10"), ("0", "100"), ("0", "38"), ("0", "39"),
        ("0", "40"), ("0", "0.000001"), ("0", "999999999999"), ("-1", "0"), ("-3", "0"), ("-7", "0"), ("-40", "0"),
        # of either sign
        ("-1", "1"), ("-1", "3"), ("-7", "2"), ("-0.5", "0.25"), ("-999999999999", "999999999999"), ("-1", "1000000"),
        ("-1000000", "0.000001"), ("-0.000001", "0.000001"), ("-20", "19"), ("-19", "20"),
        # of any bottom
        ("1/3", "2/3"), ("-1/7", "22/7"), ("1/3", "100001/300000"), ("-22/7", "-355/113"), ("1/97", "96/97"),
        # very great and very small
        (10 ** 29, 10 ** 29 + 1), (THIRTY, MOST), (-MOST, MOST), (0, MOST), (1 - MOST, 1), (MOST - 1, MOST),
        (Fraction(1, MOST), Fraction(1, THIRTY)), (0, Fraction(1, MOST)), (Fraction(-1, MOST), Fraction(1, MOST)),
        (Fraction(1, MOST), Fraction(1, MOST - 1)), (Fraction(-1, MOST), MOST), (-MOST, Fraction(1, 7)),
    ]
]
ALIKE = [Fraction(worth) for worth in [
    "0", "1", "2", "5", "7", "10", "0.3", "999999999999", "0.000001", "1/3", "22/7", "12.5", MOST, THIRTY,
    Fraction(1, MOST), "-1", "-2", "-5", "-7", "-10", "-0.3", "-999999999999", "-0.000001", "-1/3", "-12.5", -MOST,
    Fraction(-1, THIRTY),
]]
CASES = [(low, high, most) for low, high in APART + [(worth, worth) for worth in ALIKE] for most in MOSTS]


def pair(worth):
    return (worth.numerator, worth.denominator)


def taken_as(low, high):
    """The high that [7] takes."""
    if low != high:
        return high
    return Fraction(1) if high == 0 else high + abs(high)


def count_by_hand(low, high, step):
    return math.ceil(high / step) - math.floor(low / step) + 1


def step_by_hand(low, high, most):
    """The least of all round fractions that has so few marks."""
    return next(step for step in ROUND if count_by_hand(low, taken_as(low, high), step) <= most)


class MarksCase(unittest.TestCase):
    def assert_fraction(self, told, worth):
        self.assertIs(type(told), tuple)
        self.assertEqual([type(part) for part in told], [int, int])
        self.assertEqual(told, pair(worth))


class TestIsRound(MarksCase):
    def test_by_hand(self):
        for one in [(1, 1), (2, 1), (5, 1), (10, 1), (20, 1), (50, 1), (1000, 1), (1, 10), (1, 5), (1, 2), (1, 100),
                    (1, 50), (1, 20), (1, 1000), (1, 500), (1, 200)]:
            with self.subTest(one):
                self.assertIs(is_round(one), True)
        for one in [(0, 1), (3, 1), (4, 1), (6, 1), (15, 1), (25, 1), (100, 3), (1, 4), (1, 8), (1, 25), (3, 10),
                    (2, 5), (3, 2), (5, 2), (2, 3), (1, 3), (11, 1), (101, 1), (9, 1), (10, 9), (20, 3), (7, 10)]:
            with self.subTest(one):
                self.assertIs(is_round(one), False)

    def test_one_two_and_five_times_powers_of_ten(self):
        self.assertEqual(len(NEAR_ROUND), 3 * 32 + 1)
        for worth in NEAR_ROUND:
            self.assertIs(is_round(pair(worth)), True, worth)

    def test_with_a_sign_none_is(self):
        for worth in NEAR_ROUND:
            self.assertIs(is_round(pair(-worth)), False, worth)
            self.assertIs(is_round(pair(-3 * worth)), False, worth)

    def test_times_and_by_numbers_from_1_to_12(self):
        for worth in NEAR_ROUND:
            for number in range(1, 13):
                for other in (worth * number, worth / number):
                    self.assertIs(is_round(pair(other)), other in ROUND, other)
                    self.assertIs(is_round(pair(-other)), False, other)

    def test_0(self):
        self.assertIs(is_round((0, 1)), False)

    def test_small_parts(self):
        for top in range(-25, 110):
            for bottom in range(1, 110):
                worth = Fraction(top, bottom)
                self.assertIs(is_round(pair(worth)), worth in ROUND, worth)

    def test_great_parts(self):
        for one in MANY_FIGURES:
            self.assertIs(is_round(one), Fraction(*one) in ROUND, one)
        for power in (28, 29):
            self.assertIs(is_round((10 ** power, 1)), True)
            self.assertIs(is_round((1, 10 ** power)), True)
            self.assertIs(is_round((10 ** power, 3)), False)
            self.assertIs(is_round((10 ** power + 1, 10 ** power)), False)
            self.assertIs(is_round((-(10 ** power), 1)), False)


class TestNextRound(MarksCase):
    def assert_next(self, worth):
        told = next_round(pair(worth))
        self.assert_fraction(told, ROUND[bisect_left(ROUND, worth)])
        self.assertIs(is_round(told), True)

    def test_by_hand(self):
        told = {
            (1, 1): (1, 1), (3, 2): (2, 1), (2, 1): (2, 1), (21, 10): (5, 1), (4, 1): (5, 1), (5, 1): (5, 1),
            (6, 1): (10, 1), (9, 1): (10, 1), (10, 1): (10, 1), (11, 1): (20, 1), (99, 1): (100, 1),
            (1, 2): (1, 2), (1, 3): (1, 2), (1, 4): (1, 2), (1, 5): (1, 5), (1, 6): (1, 5), (1, 7): (1, 5),
            (1, 9): (1, 5), (1, 10): (1, 10), (1, 11): (1, 10), (99, 100): (1, 1), (51, 100): (1, 1),
            (1, 10 ** 12): (1, 10 ** 12), (3, 10 ** 12): (1, 2 * 10 ** 11),
        }
        for one, other in told.items():
            with self.subTest(one):
                self.assertEqual(next_round(one), other)

    def test_round_ones_themselves(self):
        for worth in NEAR_ROUND:
            self.assert_fraction(next_round(pair(worth)), worth)

    def test_a_little_more_and_a_little_less_than_a_round_one(self):
        for worth in NEAR_ROUND:
            for part in (3, 4, 5, 7, 10, 99, 1000, 12345, 10 ** 6, 10 ** 9):
                self.assert_next(worth + worth / part)
                self.assert_next(worth - worth / part)

    def test_many_figures(self):
        for one in MANY_FIGURES:
            self.assert_next(Fraction(*one))

    def test_small_parts(self):
        for top in range(1, 80):
            for bottom in range(1, 80):
                self.assert_next(Fraction(top, bottom))

    def test_however_great(self):
        great = 10 ** 6000
        self.assertEqual(next_round((great, 1)), (great, 1))
        self.assertEqual(next_round((great + 1, 1)), (2 * great, 1))
        self.assertEqual(next_round((1, great)), (1, great))
        self.assertEqual(next_round((1, great + 1)), (1, great))
        self.assertEqual(next_round((great + 1, great)), (2, 1))
        self.assertIs(is_round((5 * great, 1)), True)
        self.assertIs(is_round((5 * great + 1, 1)), False)
        self.assertIs(is_round((1, 2 * great)), True)
        self.assertIs(is_round((1, 2 * great + 1)), False)


class TestByHand(unittest.TestCase):
    def assert_told(self, low, high, most, step, marks):
        self.assertEqual(step_of(low, high, most), step)
        self.assertEqual(marks_of(low, high, most), marks)

    def test_apart(self):
        self.assert_told((0, 1), (10, 1), 12, (1, 1), [(k, 1) for k in range(11)])
        self.assert_told((0, 1), (10, 1), 11, (1, 1), [(k, 1) for k in range(11)])
        self.assert_told((0, 1), (10, 1), 10, (2, 1), [(k, 1) for k in range(0, 11, 2)])
        self.assert_told((0, 1), (10, 1), 5, (5, 1), [(0, 1), (5, 1), (10, 1)])
        self.assert_told((3, 1), (17, 1), 4, (10, 1), [(0, 1), (10, 1), (20, 1)])
        self.assert_told((-1, 1), (1, 1), 3, (1, 1), [(-1, 1), (0, 1), (1, 1)])
        self.assert_told((-1, 1), (3, 2), 3, (2, 1), [(-2, 1), (0, 1), (2, 1)])
        self.assert_told((1, 10), (3, 10), 3, (1, 10), [(1, 10), (1, 5), (3, 10)])

    def test_just_as_many_as_are_let_and_one_too_many(self):
        self.assert_told((4, 1), (6, 1), 3, (1, 1), [(4, 1), (5, 1), (6, 1)])
        self.assert_told((18, 1), (26, 1), 5, (2, 1), [(18, 1), (20, 1), (22, 1), (24, 1), (26, 1)])
        self.assert_told((18, 1), (26, 1), 4, (5, 1), [(15, 1), (20, 1), (25, 1), (30, 1)])
        # By 2 the way from the low to the high would find room in five marks, but these do not stand so.
        self.assert_told((17, 1), (25, 1), 5, (5, 1), [(15, 1), (20, 1), (25, 1)])

    def test_alike(self):
        self.assert_told((5, 1), (5, 1), 3, (5, 1), [(5, 1), (10, 1)])
        self.assert_told((5, 1), (5, 1), 4, (2, 1), [(4, 1), (6, 1), (8, 1), (10, 1)])
        self.assert_told((-5, 1), (-5, 1), 3, (5, 1), [(-5, 1), (0, 1)])
        self.assert_told((-5, 1), (-5, 1), 4, (2, 1), [(-6, 1), (-4, 1), (-2, 1), (0, 1)])
        self.assert_told((0, 1), (0, 1), 3, (1, 2), [(0, 1), (1, 2), (1, 1)])
        self.assert_told((0, 1), (0, 1), 12, (1, 10), [pair(Fraction(k, 10)) for k in range(11)])
        self.assert_told((3, 1), (3, 1), 3, (2, 1), [(2, 1), (4, 1), (6, 1)])
        self.assert_told((1, 3), (1, 3), 3, (1, 2), [(0, 1), (1, 2), (1, 1)])


class TestStepAndMarks(MarksCase):
    def test_the_step_is_the_least_round_one_with_so_few_marks(self):
        for low, high, most in CASES:
            with self.subTest(low=low, high=high, most=most):
                step = step_of(pair(low), pair(high), most)
                self.assert_fraction(step, step_by_hand(low, high, most))
                self.assertIs(is_round(step), True)

    def test_no_lesser_round_one_has_so_few(self):
        for low, high, most in CASES:
            with self.subTest(low=low, high=high, most=most):
                at = ROUND.index(Fraction(*step_of(pair(low), pair(high), most)))
                for step in ROUND[at - 6:at]:
                    self.assertGreater(count_by_hand(low, taken_as(low, high), step), most)

    def test_the_marks_are_whole_multiples_rising_by_the_step(self):
        for low, high, most in CASES:
            with self.subTest(low=low, high=high, most=most):
                step = Fraction(*step_of(pair(low), pair(high), most))
                marks = marks_of(pair(low), pair(high), most)
                self.assertIs(type(marks), list)
                self.assertLessEqual(2, len(marks))
                self.assertLessEqual(len(marks), most)
                first = Fraction(*marks[0])
                self.assertEqual((first / step).denominator, 1)
                for at, mark in enumerate(marks):
                    self.assert_fraction(mark, first + at * step)

    def test_the_marks_hold_the_low_and_the_high_closely(self):
        for low, high, most in CASES:
            with self.subTest(low=low, high=high, most=most):
                marks = [Fraction(*mark) for mark in marks_of(pair(low), pair(high), most)]
                self.assertLessEqual(marks[0], low)
                self.assertGreater(marks[1], low)
                self.assertGreaterEqual(marks[-1], taken_as(low, high))
                self.assertLess(marks[-2], taken_as(low, high))

    def test_ten_times_as_great_or_a_tenth(self):
        for low, high, most in CASES:
            with self.subTest(low=low, high=high, most=most):
                if low == high == 0:
                    continue
                step = Fraction(*step_of(pair(low), pair(high), most))
                marks = [Fraction(*mark) for mark in marks_of(pair(low), pair(high), most)]
                for scaled in (Fraction(10), Fraction(1, 10)):
                    ends = (pair(low * scaled), pair(high * scaled))
                    self.assertEqual(step_of(*ends, most), pair(step * scaled))
                    self.assertEqual(marks_of(*ends, most), [pair(mark * scaled) for mark in marks])

    def test_all_small_lows_and_highs(self):
        for low in range(-12, 13):
            for high in range(low, 13):
                for most in (3, 4, 7):
                    step = step_by_hand(Fraction(low), Fraction(high), most)
                    self.assertEqual(step_of((low, 1), (high, 1), most), pair(step))
                    self.assertEqual(len(marks_of((low, 1), (high, 1), most)),
                                     count_by_hand(low, taken_as(Fraction(low), Fraction(high)), step))

    def test_each_most(self):
        for most in range(3, 41):
            for low, high in [(0, 100), (-3, 38), (17, 18), (-1, 0)]:
                self.assertEqual(step_of((low, 1), (high, 1), most),
                                 pair(step_by_hand(Fraction(low), Fraction(high), most)))


class TestOwn(unittest.TestCase):
    def test_the_list_is_new_each_time(self):
        told = marks_of((0, 1), (10, 1), 12)
        before = list(told)
        again = marks_of((0, 1), (10, 1), 12)
        self.assertIsNot(told, again)
        told.clear()
        again.append((99, 1))
        self.assertEqual(marks_of((0, 1), (10, 1), 12), before)
        self.assertEqual(step_of((0, 1), (10, 1), 12), (1, 1))


class TestHandedInAgain(unittest.TestCase):
    def test_marks_and_steps(self):
        marks = marks_of((1, 3), (200, 7), 12)
        self.assertEqual(marks_of(marks[0], marks[-1], len(marks)), marks)
        step = step_of((1, 3), (200, 7), 12)
        self.assertEqual(next_round(step), step)

    def test_however_great(self):
        great = 10 ** 3000
        low, high = (great + 1, 1), (3 * great + 1, 1)
        self.assertEqual(step_of(low, high, 4), (great, 1))
        self.assertEqual(marks_of(low, high, 4), [(k * great, 1) for k in (1, 2, 3, 4)])
        low, high = (great + 1, great), (3 * great + 1, great)
        self.assertEqual(step_of(low, high, 4), (1, 1))
        self.assertEqual(marks_of(low, high, 4), [(k, 1) for k in (1, 2, 3, 4)])
        self.assertEqual(marks_of((great + 1, 1), (great + 2, 1), 3),
                         [(great + 1, 1), (2 * great + 3, 2), (great + 2, 1)])
        marks = marks_of(low, high, 40)
        self.assertEqual(marks_of(marks[0], marks[-1], 40), marks)


class TestBeyondTheLimits(unittest.TestCase):
    def test_a_most_that_is_too_great_is_taken_as_it_is(self):
        self.assertEqual(step_of((0, 1), (50, 1), 51), (1, 1))
        self.assertEqual(marks_of((0, 1), (50, 1), 51), [(k, 1) for k in range(51)])

    def test_a_most_that_is_too_small_ends(self):
        self.assertEqual(step_of((4, 1), (6, 1), 2), (2, 1))
        self.assertEqual(marks_of((0, 1), (7, 1), 2), [(0, 1), (10, 1)])
        self.assertEqual(marks_of((-7, 1), (-1, 1), 2), [(-10, 1), (0, 1)])
        self.assertEqual(marks_of((-7, 1), (0, 1), 2), [(-10, 1), (0, 1)])
        self.assertEqual(marks_of((-1, 1), (1, 1), 2), [(-1, 1), (0, 1), (1, 1)])
        for most in (1, 0, -5):
            self.assertEqual(marks_of((0, 1), (7, 1), most), [(0, 1), (10, 1)])

    def test_what_is_not_above_0_ends(self):
        for one in [(0, 1), (-1, 1), (-1, 3), (-10, 1)]:
            self.assertIs(is_round(next_round(one)), True)


if __name__ == "__main__":
    unittest.main()
