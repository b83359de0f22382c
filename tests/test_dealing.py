"""Shares dealt: [11], and [2] and [3] as far as they speak of them."""

import copy
import itertools
import math
import random
import unittest
from fractions import Fraction

from chartscribe.dealing import dealt

WHOLES = (0, 1, 2, 3, 7, 39, 40, 999, 1000)
MOST = 10 ** 30 - 1
# Lists of one to twelve: whole, with points, of any bottom, alike, with noughts, all noughts, very unlike, very great.
LISTS = [[Fraction(text) for text in texts.split()] for texts in [
    "1", "0", "7.5", "1/3", "0.000001", "999999999999", "1 1", "1 2", "2 1", "0 1", "1 0", "0 0", "1 1 1", "3 1 1",
    "1 3 1", "1 1 3", "0 0 5", "5 0 0", "0 5 0", "1 1 1 1 1 1 1", "0.1 0.2 0.3", "0.5 0.25 0.125 0.125", "1/3 1/7 1/11",
    "2/3 2/3 1/3", "0.000001 999999999999", "999999999999 0.000001", "0 0 0 0 0 0 0 0 0 0 0 0", "1 1 1 1 1 1 1 1 1 1 1 1",
    "12 11 10 9 8 7 6 5 4 3 2 1", "1 2 3 4 5 6 7 8 9 10 11 12", "0 1 0 1 0 1 0 1 0 1 0 1", "49 49 2", "33.3 33.3 33.4",
    "0.999999 0.000001 1", "1 10 100 1000 10000 100000", "5 5 5 5 0", "0 3 3 3", "22/7 355/113 1/97 96/97", "1000 1 1 1 1",
    "123456789012.123456 1 0.5", "7 7 7 1 1 1 0 0 0 2 2 2", "0.1 0.01 0.001 0.0001 0.00001 0.000001",
]] + [[Fraction(MOST), Fraction(1, MOST), Fraction(0)], [Fraction(1, MOST), Fraction(1, MOST - 1)]]


def pairs(worths):
    return [(worth.numerator, worth.denominator) for worth in worths]


def dues_of(worths, whole):
    return [whole * worth / sum(worths) for worth in worths]


def dealt_by_hand(worths, whole):
    """As [11] tells it: what is left goes one by one to the greatest rest, each at most once."""
    if sum(worths) == 0:
        return [0] * len(worths)
    dues = dues_of(worths, whole)
    told = [math.floor(due) for due in dues]
    rests = {at: dues[at] - told[at] for at in range(len(dues))}
    while sum(told) < whole:
        at = min(at for at in rests if rests[at] == max(rests.values()))
        told[at] += 1
        del rests[at]
    return told


def made_lists():
    """Lists of one to twelve, of all the kinds, mixed."""
    chance = random.Random(11)
    bottoms = (1, 10, 100, 1000, 10 ** 4, 10 ** 5, 10 ** 6, 3, 7, 97)
    for many in range(1, 13):
        for turn in range(25):
            most = chance.choice((1, 2, 5, 100, 10 ** 12))
            yield [Fraction(chance.choice((0, 1, chance.randint(0, most))), chance.choice(bottoms)) for at in range(many)]


ALL_LISTS = LISTS + list(made_lists())


class TestByHand(unittest.TestCase):
    def test_told(self):
        for texts, whole, told in [
            ("1", 40, [40]), ("0", 40, [0]), ("1 1", 1, [1, 0]), ("1 1", 3, [2, 1]), ("1 1 1", 40, [14, 13, 13]),
            ("1 1 1", 2, [1, 1, 0]), ("1 2", 2, [1, 1]), ("1 3", 2, [1, 1]), ("1 5", 2, [0, 2]), ("3 1", 2, [2, 0]),
            ("0 1 1", 1, [0, 1, 0]), ("1 1 1 1 1 1 1", 3, [1, 1, 1, 0, 0, 0, 0]), ("1 2 3 4", 10, [1, 2, 3, 4]),
            ("0.1 0.2 0.7", 1000, [100, 200, 700]), ("49 49 2", 10, [5, 5, 0]), ("0 0 0", 1000, [0, 0, 0]),
            ("1000 1 1 1 1", 2, [2, 0, 0, 0, 0]), ("2 3 3", 4, [1, 2, 1]), ("3 2 3", 4, [2, 1, 1]), ("3 3 2", 4, [2, 1, 1]),
            ("1 2 4", 5, [1, 1, 3]), ("5 7", 0, [0, 0]),
        ]:
            with self.subTest(texts=texts, whole=whole):
                self.assertEqual(dealt(pairs([Fraction(text) for text in texts.split()]), whole), told)


class TestDealt(unittest.TestCase):
    def each(self):
        for worths in ALL_LISTS:
            for whole in WHOLES:
                yield worths, whole, dealt(pairs(worths), whole)

    def test_a_list_of_whole_numbers(self):
        for worths, whole, told in self.each():
            self.assertIs(type(told), list)
            self.assertEqual([type(part) for part in told], [int] * len(worths))

    def test_as_the_document_deals(self):
        for worths, whole, told in self.each():
            self.assertEqual(told, dealt_by_hand(worths, whole), (worths, whole))

    def test_they_come_to_the_whole(self):
        for worths, whole, told in self.each():
            self.assertEqual(sum(told), whole if any(worths) else 0)

    def test_each_gets_the_floor_of_its_due_or_one_more(self):
        for worths, whole, told in self.each():
            if any(worths):
                for due, part in zip(dues_of(worths, whole), told):
                    self.assertIn(part - math.floor(due), (0, 1))
                    self.assertLess(abs(part - due), 1)

    def test_one_of_due_0_gets_0(self):
        for worths, whole, told in self.each():
            for worth, part in zip(worths, told):
                if worth == 0 or whole == 0:
                    self.assertEqual(part, 0)

    def test_a_greater_one_never_gets_fewer(self):
        for worths, whole, told in self.each():
            for (one, its), (other, others) in itertools.permutations(zip(worths, told), 2):
                if one > other:
                    self.assertGreaterEqual(its, others)

    def test_of_several_alike_the_first(self):
        for worths, whole, told in self.each():
            for (one, its), (other, others) in itertools.combinations(zip(worths, told), 2):
                if one == other:
                    self.assertIn(its - others, (0, 1))

    def test_alike_rests_of_unlike_dues(self):
        # Dues of 1.5, 0.5, 2.5 and 0.5.
        self.assertEqual(dealt([(3, 1), (1, 1), (5, 1), (1, 1)], 5), [2, 1, 2, 0])
        self.assertEqual(dealt([(1, 1), (5, 1), (1, 1), (3, 1)], 5), [1, 3, 0, 1])

    def test_where_each_due_is_whole_each_gets_just_that(self):
        for parts in ([1], [3, 4], [0, 40], [1, 2, 3, 4], [7, 0, 33], [1] * 12, [0, 0, 1000], [250, 250, 500]):
            for by in (Fraction(1), Fraction(1, 10 ** 6), Fraction(22, 7), Fraction(10 ** 12)):
                self.assertEqual(dealt(pairs([part * by for part in parts]), sum(parts)), parts)

    def test_ten_times_as_great_ones_get_the_same(self):
        for worths, whole, told in self.each():
            for by in (Fraction(10), Fraction(1, 10), Fraction(3, 7)):
                self.assertEqual(dealt(pairs([worth * by for worth in worths]), whole), told)


class TestOnesOwn(unittest.TestCase):
    def test_the_list_handed_in_stays(self):
        for worths in ALL_LISTS:
            numbers = pairs(worths)
            kept = copy.deepcopy(numbers)
            dealt(numbers, 40)
            self.assertEqual(numbers, kept)

    def test_the_told_list_changed_changes_nothing(self):
        for texts in ("1 2 3", "0 0 0"):
            numbers = pairs([Fraction(text) for text in texts.split()])
            told = dealt(numbers, 40)
            kept = list(told)
            told[0] = 99
            told.append(7)
            self.assertEqual(dealt(numbers, 40), kept)
            self.assertEqual(numbers, pairs([Fraction(text) for text in texts.split()]))

    def test_nothing_asked_later_changes_what_was_told(self):
        told = dealt([(1, 1), (2, 1)], 40)
        kept = list(told)
        dealt([(2, 1), (1, 1)], 7)
        self.assertEqual(told, kept)


class TestBeyond(unittest.TestCase):
    def test_handed_in_again_however_great(self):
        great = 10 ** 5000
        self.assertEqual(dealt([(great, 1), (1, great), (great, 1)], 5), [3, 0, 2])
        self.assertEqual(dealt([(1, 1), (1, 1)], great + 1), [great // 2 + 1, great // 2])
        told = dealt([(1, 1), (2, 1), (4, 1)], 1000)
        self.assertEqual(dealt([(part, 1) for part in told], 1000), told)

    def test_more_than_twelve_and_more_than_a_thousand(self):
        self.assertEqual(dealt([(1, 1)] * 13, 14), [2] + [1] * 12)
        self.assertEqual(dealt([(1, 1), (1, 1)], 1001), [501, 500])
        self.assertEqual(len(dealt([(1, at) for at in range(1, 401)], 1000)), 400)


if __name__ == "__main__":
    unittest.main()
