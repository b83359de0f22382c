"""Levels: [10], and [2] and [3] as far as they speak of them."""

import math
import unittest
from fractions import Fraction

from chartscribe.marks import marks_of
from chartscribe.scales import Scale

MOST = 10 ** 30 - 1
ENDS = [(Fraction(low), Fraction(high)) for low, high in [
    ("0", "1"), ("0", "10"), ("0", "100"), ("-1", "1"), ("-10", "-3"), ("1/3", "22/7"), ("-7", "0"), ("0.000001", "5"),
    ("999999999999", "1000000000000"), ("-999999999999", "999999999999"), ("-5", "15"), ("99.5", "100"),
    (1 - MOST, MOST), (MOST - 1, MOST), (0, Fraction(1, MOST)), (Fraction(-1, MOST), Fraction(2, 7)),
]]
ROWS = (2, 3, 4, 7, 10, 39, 40)
CASES = [(low, high, rows) for low, high in ENDS for rows in ROWS]


def pair(worth):
    return (worth.numerator, worth.denominator)


def worth_at(low, high, rows, levels):
    """The number that lies so many levels above the low."""
    return low + levels * (high - low) / rows


def levels_of(rows):
    """Levels within, below 0 and above rows."""
    return [*range(-3, rows + 4), -1000, 1000, -MOST, MOST]


class ScaleCase(unittest.TestCase):
    def assert_fraction(self, told, worth):
        self.assertIs(type(told), tuple)
        self.assertEqual([type(part) for part in told], [int, int])
        self.assertEqual(told, pair(worth))


class TestFields(unittest.TestCase):
    def test_fields_are_set_when_it_is_made(self):
        made = Scale((1, 3), (22, 7), 10)
        self.assertEqual(vars(made), {"low": (1, 3), "high": (22, 7), "rows": 10})
        made = Scale(rows=2, high=(1, 1), low=(-1, 1))
        self.assertEqual((made.low, made.high, made.rows), ((-1, 1), (1, 1), 2))

    def test_asking_changes_no_field(self):
        made = Scale((1, 3), (22, 7), 10)
        made.number(3), made.level((5, 1)), made.stretch(4)
        self.assertEqual(vars(made), {"low": (1, 3), "high": (22, 7), "rows": 10})

    def test_two_scales_are_their_own(self):
        one, other = Scale((0, 1), (1, 1), 2), Scale((0, 1), (10, 1), 5)
        self.assertEqual((one.number(1), other.number(1)), ((1, 2), (2, 1)))

    def test_the_methods_are_its_own(self):
        for name in ("number", "level", "stretch"):
            self.assertIn(name, vars(Scale))


class TestByHand(unittest.TestCase):
    def test_number(self):
        made = Scale((0, 1), (10, 1), 4)
        told = {0: (0, 1), 1: (5, 2), 2: (5, 1), 3: (15, 2), 4: (10, 1), 5: (25, 2), -1: (-5, 2), -4: (-10, 1)}
        for level, number in told.items():
            self.assertEqual(made.number(level), number)

    def test_level(self):
        made = Scale((0, 1), (10, 1), 4)
        told = {
            (0, 1): 0, (1, 1): 0, (5, 4): 1, (31, 25): 0, (63, 50): 1, (5, 2): 1, (15, 4): 2, (37, 10): 1, (5, 1): 2,
            (10, 1): 4, (45, 4): 5, (11, 1): 4, (-1, 1): 0, (-5, 4): 0, (-63, 50): -1, (-15, 4): -1, (-19, 5): -2,
            (1000, 1): 400, (-1000, 1): -400,
        }
        for number, level in told.items():
            with self.subTest(number):
                self.assertEqual(made.level(number), level)

    def test_stretch(self):
        made = Scale((0, 1), (10, 1), 4)
        self.assertEqual(made.stretch(0), ((-5, 4), (5, 4)))
        self.assertEqual(made.stretch(1), ((5, 4), (15, 4)))
        self.assertEqual(made.stretch(4), ((35, 4), (45, 4)))
        self.assertEqual(made.stretch(-1), ((-15, 4), (-5, 4)))

    def test_a_low_below_0(self):
        made = Scale((-5, 1), (15, 1), 10)
        numbers = [made.number(level) for level in (0, 1, 2, 3, 10)]
        self.assertEqual(numbers, [(-5, 1), (-3, 1), (-1, 1), (1, 1), (15, 1)])
        self.assertEqual([made.level(one) for one in [(-5, 1), (-4, 1), (0, 1), (15, 1)]], [0, 1, 3, 10])
        self.assertEqual(made.stretch(3), ((0, 1), (2, 1)))


class TestNumber(ScaleCase):
    def test_each_level(self):
        for low, high, rows in CASES:
            made = Scale(pair(low), pair(high), rows)
            for level in levels_of(rows):
                self.assert_fraction(made.number(level), worth_at(low, high, rows, level))

    def test_the_ends(self):
        for low, high, rows in CASES:
            made = Scale(pair(low), pair(high), rows)
            self.assertEqual((made.number(0), made.number(rows)), (made.low, made.high))


class TestLevel(ScaleCase):
    def assert_level(self, made, worth, level):
        told = made.level(pair(worth))
        self.assertIs(type(told), int)
        self.assertEqual(told, level)

    def test_the_ends(self):
        for low, high, rows in CASES:
            made = Scale(pair(low), pair(high), rows)
            self.assert_level(made, low, 0)
            self.assert_level(made, high, rows)

    def test_the_number_of_each_level(self):
        for low, high, rows in CASES:
            made = Scale(pair(low), pair(high), rows)
            for level in levels_of(rows):
                self.assert_level(made, Fraction(*made.number(level)), level)

    def test_between_two_levels_and_a_little_beside(self):
        for low, high, rows in CASES:
            made = Scale(pair(low), pair(high), rows)
            for level in levels_of(rows):
                between = worth_at(low, high, rows, level + Fraction(1, 2))
                self.assert_level(made, between, level + 1)
                for part in (3, 1000, 10 ** 12):
                    little = (high - low) / rows / part
                    self.assert_level(made, between - little, level)
                    self.assert_level(made, between + little, level + 1)

    def test_far_outside(self):
        for low, high, rows in CASES:
            made = Scale(pair(low), pair(high), rows)
            for worth in (Fraction(MOST), Fraction(-MOST), Fraction(MOST, 7), Fraction(1, MOST), Fraction(0)):
                self.assert_level(made, worth, math.floor((worth - low) * rows / (high - low) + Fraction(1, 2)))


class TestStretch(ScaleCase):
    def test_a_tuple_of_two_fractions(self):
        for low, high, rows in CASES:
            made = Scale(pair(low), pair(high), rows)
            for level in levels_of(rows):
                told = made.stretch(level)
                self.assertIs(type(told), tuple)
                self.assertEqual(len(told), 2)
                self.assert_fraction(told[0], worth_at(low, high, rows, level - Fraction(1, 2)))
                self.assert_fraction(told[1], worth_at(low, high, rows, level + Fraction(1, 2)))

    def test_just_what_lies_there_has_the_level(self):
        for low, high, rows in CASES:
            made = Scale(pair(low), pair(high), rows)
            for level in levels_of(rows):
                start, end = [Fraction(*one) for one in made.stretch(level)]
                self.assertLess(start, end)
                self.assertEqual(made.level(pair(start)), level)
                self.assertEqual(made.level(pair(end)), level + 1)
                for part in (2, 3, 10, 10 ** 9):
                    little = (end - start) / part
                    self.assertEqual(made.level(pair(start + little)), level)
                    self.assertEqual(made.level(pair(end - little)), level)
                    self.assertEqual(made.level(pair(start - little)), level - 1)

    def test_each_begins_where_the_one_ahead_ends(self):
        made = Scale((1, 3), (22, 7), 7)
        for level in range(-5, 15):
            self.assertEqual(made.stretch(level)[1], made.stretch(level + 1)[0])


class TestTheWhole(unittest.TestCase):
    # As [3] has it: the numbers of a picture, its marks, and the scale from the first mark to the last.
    SETS = [
        ["0", "3", "7", "10"], ["1", "1", "1"], ["-4", "2.5", "9"], ["-0.000001", "999999999999"], ["-9", "-8.5", "-3"],
        ["0", "0.5"], ["12.25", "12.5", "12.75", "13"], ["-7", "-7"], ["0.1", "0.2", "0.3", "0.7"], ["5", "0", "-5"],
        ["99", "100", "101"], ["1/3", "2/3", "5/7"], ["-1000000", "1"], ["123456.789", "-98765.4321", "0"],
    ]

    def scale_for(self, worths, most, rows):
        marks = marks_of(pair(min(worths)), pair(max(worths)), most)
        return marks, Scale(marks[0], marks[-1], rows)

    def test_all_numbers_have_levels_from_0_to_rows(self):
        for texts in self.SETS:
            worths = [Fraction(text) for text in texts]
            for rows in ROWS:
                marks, made = self.scale_for(worths, rows // 2 + 2, rows)
                for worth in worths:
                    self.assertIn(made.level(pair(worth)), range(rows + 1))

    def test_a_greater_number_never_has_a_lower_level(self):
        for low, high, rows in CASES:
            made = Scale(pair(low), pair(high), rows)
            part = (high - low) / (rows * 8 + 3)
            levels = [made.level(pair(low + at * part)) for at in range(-20, rows * 8 + 30)]
            self.assertEqual(levels, sorted(levels))
            self.assertGreater(levels[-1], levels[0])

    def test_ten_times_as_great_or_a_tenth_the_levels_are_the_same(self):
        for texts in self.SETS:
            worths = [Fraction(text) for text in texts]
            for rows in ROWS:
                marks, made = self.scale_for(worths, rows // 2 + 2, rows)
                levels = [made.level(pair(worth)) for worth in worths]
                for scaled in (Fraction(10), Fraction(1, 10)):
                    others = [worth * scaled for worth in worths]
                    other_marks, other = self.scale_for(others, rows // 2 + 2, rows)
                    self.assertEqual(other_marks, [pair(Fraction(*mark) * scaled) for mark in marks])
                    self.assertEqual([other.level(pair(worth)) for worth in others], levels)


class TestHandedInAgain(unittest.TestCase):
    def test_however_great(self):
        great = 10 ** 3000
        made = Scale((great, 1), (great + 1, 1), 40)
        self.assertEqual(made.number(20), (2 * great + 1, 2))
        self.assertEqual(made.level(made.number(17)), 17)
        self.assertEqual(made.level((0, 1)), -40 * great)
        self.assertEqual(made.number(made.level((0, 1))), (0, 1))
        self.assertEqual(made.level(made.stretch(great)[0]), great)
        made = Scale((0, 1), (1, great), 2)
        self.assertEqual(made.level((1, 1)), 2 * great)
        self.assertEqual(made.stretch(0), ((-1, 4 * great), (1, 4 * great)))

    def test_rows_beyond_the_limits_are_taken_as_they_are(self):
        self.assertEqual(Scale((0, 1), (10, 1), 1).level((5, 1)), 1)
        self.assertEqual(Scale((0, 1), (10, 1), 100).level((5, 1)), 50)


if __name__ == "__main__":
    unittest.main()
