"""Names placed: [14], and [2] and [3] as far as they speak of them."""

import itertools
import random
import unittest

from chartscribe.placing import placed

LETTERS = "abcdefghijklmnopqrstuvwxyz"
LONG = "abcdefghij"


def cases():
    """Names and begins of up to ten, close and far, short and long."""
    chance = random.Random(14)
    for many in range(11):
        for turn in range(30):
            gap = chance.choice((1, 2, 3, 5, 9, 14))
            long = chance.choice((1, 2, 4, 10))
            starts = list(itertools.accumulate([chance.randint(0, 5)] + [chance.randint(1, gap) for at in range(many)]))
            yield [LETTERS[at] * chance.randint(1, long) for at in range(many)], starts[:many]


CASES = list(cases())


def places(name, start):
    return range(start, start + len(name))


def touch(one, other):
    """Whether two (name, start) take a place both, or places side by side."""
    return any(abs(place - place_too) <= 1 for place in places(*one) for place_too in places(*other))


def taken(names, told):
    return [at for at, name in enumerate(told) if name is not None]


def placed_by_hand(names, starts):
    """As [14] tells it, name by name."""
    told = [None] * len(names)
    kept = []
    while True:
        free = [at for at in range(len(names)) if told[at] is None
                and all(starts[at] > starts[other] for other in kept)
                and not any(touch((names[at], starts[at]), (names[other], starts[other])) for other in kept)]
        if not free:
            return told
        at = min(free, key=lambda one: (starts[one] + len(names[one]), one))
        told[at] = names[at]
        kept.append(at)


class TestByHand(unittest.TestCase):
    def test_told(self):
        for names, starts, told in [
            ([], [], []), (["a"], [0], ["a"]), ([LONG], [7], [LONG]),
            # side by side, with one place between, with more
            (["a", "b"], [0, 1], ["a", None]), (["a", "b"], [0, 2], ["a", "b"]), (["ab", "c"], [0, 2], ["ab", None]),
            (["ab", "c"], [0, 3], ["ab", "c"]), (["ab", "c"], [5, 9], ["ab", "c"]), ([LONG, "b"], [0, 10], [LONG, None]),
            ([LONG, "b"], [0, 11], [LONG, "b"]),
            # the same places: the one whose last place is least
            (["abc", "d"], [0, 1], [None, "d"]), (["abcd", "e", "f"], [0, 1, 3], [None, "e", "f"]),
            ([LONG, "b", "c", "d"], [0, 2, 4, 6], [None, "b", "c", "d"]),
            # that end at the same place: the first
            (["ab", "c"], [0, 1], ["ab", None]), (["abc", "de", "f"], [0, 1, 2], ["abc", None, None]),
            (["abc", "de", "f", "g"], [0, 1, 2, 4], ["abc", None, None, "g"]),
            (["x", "abc", "de", "f"], [0, 1, 2, 3], ["x", None, "de", None]),
            # a short one behind a long one that it touches
            ([LONG, "b"], [0, 9], [LONG, None]), (["abcd", "e", "f"], [0, 4, 6], ["abcd", None, "f"]),
            (["abcd", "e", "f"], [0, 3, 4], ["abcd", None, None]), (["abcd", "e", "f"], [0, 2, 5], [None, "e", "f"]),
            # of many the last one alone, the first one alone
            ([LONG, LONG, "c"], [0, 1, 2], [None, None, "c"]), (["a", LONG, LONG], [0, 1, 3], ["a", None, LONG]),
            (["a", LONG, LONG, LONG], [0, 1, 2, 3], ["a", None, LONG, None]),
            # the same name twice, and names that are parts of another
            (["a", "a"], [0, 2], ["a", "a"]), (["a", "a"], [0, 1], ["a", None]),
        ]:
            with self.subTest(names=names, starts=starts):
                self.assertEqual(placed(names, starts), told)


class TestPlaced(unittest.TestCase):
    def test_each_name_or_none(self):
        for names, starts in CASES:
            told = placed(names, starts)
            self.assertIs(type(told), list)
            self.assertEqual(len(told), len(names))
            for name, its in zip(names, told):
                self.assertIn(its, (name, None))

    def test_as_the_document_takes_them(self):
        for names, starts in CASES:
            self.assertEqual(placed(names, starts), placed_by_hand(names, starts), (names, starts))

    def test_no_two_touch(self):
        for names, starts in CASES:
            for one, other in itertools.combinations(taken(names, placed(names, starts)), 2):
                self.assertFalse(touch((names[one], starts[one]), (names[other], starts[other])))

    def test_no_choice_has_more(self):
        for names, starts in CASES:
            pairs = list(zip(names, starts))
            bad = [2 ** one + 2 ** other for one, other in itertools.combinations(range(len(names)), 2)
                   if touch(pairs[one], pairs[other])]
            good = [choice for choice in range(2 ** len(names)) if all(choice & two != two for two in bad)]
            self.assertEqual(len(taken(names, placed(names, starts))), max(choice.bit_count() for choice in good))

    def test_what_was_placed_is_placed_again(self):
        for names, starts in CASES:
            kept = taken(names, placed(names, starts))
            again = [names[at] for at in kept]
            self.assertEqual(placed(again, [starts[at] for at in kept]), again)

    def test_all_moved_by_as_much(self):
        for names, starts in CASES:
            for by in (1, 7, 10 ** 29):
                self.assertEqual(placed(names, [start + by for start in starts]), placed(names, starts))

    def test_many(self):
        names = [LETTERS[at % 26] * (1 + at % 10) for at in range(400)]
        for gap in (1, 2, 5):
            starts = [at * gap for at in range(400)]
            self.assertEqual(placed(names[:40], starts[:40]), placed_by_hand(names[:40], starts[:40]))
            self.assertEqual(placed(names, starts)[:30], placed_by_hand(names[:40], starts[:40])[:30])
        for gap in (11, 12, 10 ** 27):
            self.assertEqual(placed(names, [at * gap for at in range(400)]), names)


class TestOnesOwn(unittest.TestCase):
    def test_the_lists_handed_in_stay(self):
        for names, starts in CASES:
            kept = (list(names), list(starts))
            placed(names, starts)
            self.assertEqual((names, starts), kept)

    def test_the_told_list_is_new(self):
        for names, starts in CASES:
            told = placed(names, starts)
            self.assertIsNot(told, names)
            kept = list(told)
            told.append("x")
            told[0] = "y"
            self.assertEqual(placed(names, starts), kept)

    def test_changed_behind_the_call_nothing_changes(self):
        names, starts = ["a", "b"], [0, 2]
        told = placed(names, starts)
        names[0] = "x"
        starts.clear()
        self.assertEqual(told, ["a", "b"])

    def test_however_great(self):
        great = 10 ** 5000
        self.assertEqual(placed(["ab", "c", "d"], [great, great + 2, great + 3]), ["ab", None, "d"])


if __name__ == "__main__":
    unittest.main()
