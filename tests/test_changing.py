"""What changed: [22], and [2] as far as it speaks of it."""

import copy
import itertools
import random
import unittest

from chartscribe.changing import changed, changes
from chartscribe.errors import ChartError, NoChange

GREAT = 10 ** 30 - 1


def pairs_of_lists():
    """Lists alike, longer, shorter, empty, otherwise at some places."""
    chance = random.Random(22)
    few = ["", "a", "b", " ", "a\nb", "bars 2"]
    for one, other in itertools.product(itertools.product(["a", "b", ""], repeat=2), repeat=2):
        for long, long_too in itertools.product(range(3), repeat=2):
            yield list(one[:long]), list(other[:long_too])
    for turn in range(300):
        one = [chance.choice(few) for at in range(chance.choice((0, 1, 5, 40)))]
        other = one[:chance.choice((0, 3, 40))] + [chance.choice(few) for at in range(chance.choice((0, 1, 7)))]
        for at in range(len(other)):
            if chance.randrange(4) == 0:
                other[at] = chance.choice(few)
        yield one, other
    yield [str(at) for at in range(400)], [str(at - at % 7) for at in range(400)]
    yield [], [str(at) for at in range(400)]
    yield [str(at) for at in range(400)], []
    yield ["x" * 20000], ["x" * 19999 + "y"]


PAIRS = list(pairs_of_lists())


class TestChanges(unittest.TestCase):
    def test_by_hand(self):
        for one, other, told in [
            ([], [], (0, [])), (["a"], ["a"], (1, [])), ([], ["a"], (1, [(0, "a")])), (["a"], [], (0, [])),
            (["a"], ["b"], (1, [(0, "b")])), (["a", "b"], ["a"], (1, [])), (["a"], ["a", "a"], (2, [(1, "a")])),
            (["a", "b", "c"], ["a", "x", "c"], (3, [(1, "x")])), (["a", "b", "c"], ["c", "b", "a"], (3, [(0, "c"), (2, "a")])),
            (["a", "b"], ["", "b", "", ""], (4, [(0, ""), (2, ""), (3, "")])), (["a", "b", "c"], ["b", "c"], (2, [(0, "b"), (1, "c")])),
        ]:
            with self.subTest(one=one, other=other):
                self.assertEqual(changes(one, other), told)

    def test_as_the_document_tells_it(self):
        for one, other in PAIRS:
            told = changes(one, other)
            self.assertIs(type(told), tuple)
            many, rows = told
            self.assertEqual((type(many), type(rows)), (int, list))
            self.assertEqual(many, len(other))
            places = [k for k, text in rows]
            self.assertEqual(places, [k for k in range(many) if k >= len(one) or one[k] != other[k]])
            for row in rows:
                self.assertEqual((type(row), len(row)), (tuple, 2))
                self.assertEqual(row[1], other[row[0]])

    def test_the_lists_handed_in_stay(self):
        for one, other in PAIRS:
            kept = (list(one), list(other))
            changes(one, other)
            self.assertEqual((one, other), kept)

    def test_what_is_told_is_ones_own(self):
        one, other = ["a", "b"], ["a", "c", "d"]
        told = changes(one, other)
        other[1] = "x"
        one.clear()
        self.assertEqual(told, (3, [(1, "c"), (2, "d")]))
        told[1].append((7, "z"))
        self.assertEqual(changes(["a", "b"], ["a", "c", "d"]), (3, [(1, "c"), (2, "d")]))


class TestChanged(unittest.TestCase):
    def test_by_hand(self):
        for one, told, made in [
            ([], (0, []), []), (["a"], (1, []), ["a"]), (["a", "b"], (0, []), []), (["a", "b"], (1, []), ["a"]),
            (["a"], (1, [(0, "b")]), ["b"]), (["a"], (1, [(0, "a")]), ["a"]), ([], (2, [(0, "x"), (1, "y")]), ["x", "y"]),
            (["a", "b", "c"], (2, [(0, "x")]), ["x", "b"]), (["a", "b", "c"], (4, [(1, "x"), (3, "y")]), ["a", "x", "c", "y"]),
            (["a", "b", "c"], (3, [(0, "x"), (1, "y"), (2, "z")]), ["x", "y", "z"]), (["a"], (2, [(1, "")]), ["a", ""]),
        ]:
            with self.subTest(one=one, told=told):
                self.assertEqual(changed(one, told), made)

    def test_put_in_makes_the_other_one_and_back(self):
        for one, other in PAIRS:
            made = changed(one, changes(one, other))
            self.assertIs(type(made), list)
            self.assertEqual(made, other)
            self.assertEqual(changed(made, changes(other, one)), one)

    def test_rows_of_ones_own(self):
        chance = random.Random(23)
        for turn in range(400):
            one = [str(at) for at in range(chance.choice((0, 1, 5, 20, 400)))]
            many = chance.choice((0, 1, 4, 20, 30, 399, 400))
            rows = [(k, "new") for k in range(many) if k >= len(one) or chance.randrange(3) == 0]
            made = changed(one, (many, rows))
            at = dict(rows)
            self.assertEqual(made, [at.get(k, str(k)) for k in range(many)])

    def test_what_is_handed_in_stays(self):
        for one, other in PAIRS:
            told = changes(one, other)
            kept = copy.deepcopy((one, told))
            made = changed(one, told)
            self.assertEqual((one, told), kept)
            made.append("x")
            self.assertEqual((one, told), kept)

    def test_what_is_told_is_ones_own(self):
        one, told = ["a", "b"], (3, [(1, "c"), (2, "d")])
        made = changed(one, told)
        one.clear()
        told[1].clear()
        self.assertEqual(made, ["a", "c", "d"])
        one = ["a"]
        made = changed(one, (1, []))
        made[0] = "x"
        self.assertEqual(one, ["a"])


class TestRefused(unittest.TestCase):
    def assert_refused(self, one, told, at):
        kept = copy.deepcopy((one, told))
        with self.assertRaises(NoChange) as caught:
            changed(one, told)
        self.assertIs(type(caught.exception), NoChange)
        self.assertEqual((caught.exception.at, type(caught.exception.at)), (at, int))
        self.assertEqual((one, told), kept)

    def test_by_hand(self):
        for one, told, at in [
            # below 0, many, above it
            (["a"], (1, [(-1, "x")]), 0), (["a"], (1, [(1, "x")]), 0), (["a"], (1, [(2, "x")]), 0), (["a"], (0, [(0, "x")]), 0),
            (["a"], (1, [(GREAT, "x")]), 0), (["a"], (1, [(-GREAT, "x")]), 0), (["a", "b"], (2, [(0, "x"), (2, "y")]), 1),
            (["a", "b"], (2, [(0, "x"), (-1, "y")]), 1), (["a", "b", "c"], (2, [(2, "x")]), 0),
            # that of the tuple ahead, a lesser one
            (["a", "b"], (2, [(0, "x"), (0, "y")]), 1), (["a", "b"], (2, [(1, "x"), (0, "y")]), 1),
            (["a"] * 5, (5, [(0, "x"), (3, "y"), (3, "y"), (9, "z")]), 2), (["a"] * 5, (5, [(4, "x"), (1, "y"), (2, "z")]), 1),
            (["a"] * 5, (5, [(0, "x"), (1, "y"), (2, "z"), (1, "w")]), 3),
            # the same text twice at the same place is refused as well
            (["a"], (1, [(0, "a"), (0, "a")]), 1),
            # a text that lacks
            ([], (1, []), 0), (["a"], (2, []), 0), (["a"], (3, [(1, "x")]), 1), (["a"], (3, [(2, "x")]), 1),
            (["a"], (4, [(0, "x"), (1, "y"), (3, "z")]), 3), ([], (400, [(at, "x") for at in range(399)]), 399),
            ([], (400, [(at, "x") for at in range(1, 400)]), 399), (["a", "b"], (4, [(0, "x"), (1, "y")]), 2),
            # a wrong tuple goes ahead of a text that lacks
            ([], (5, [(0, "x"), (7, "y")]), 1), ([], (5, [(3, "x"), (3, "y")]), 1), ([], (5, [(-1, "x")]), 0),
            ([], (5, [(4, "x"), (2, "y"), (3, "z")]), 1),
        ]:
            with self.subTest(one=one, told=told):
                self.assert_refused(one, told, at)

    def at_by_hand(self, one, many, rows):
        """Where [22] refuses, or None."""
        for at, (k, text) in enumerate(rows):
            if not 0 <= k < many or at > 0 and k <= rows[at - 1][0]:
                return at
        places = [k for k, text in rows]
        return len(rows) if any(k >= len(one) and k not in places for k in range(many)) else None

    def test_all_small_ones(self):
        some = 0
        for long, many in itertools.product(range(4), range(4)):
            one = ["a", "b", "c"][:long]
            for count in range(4):
                for places in itertools.product(range(-1, 5), repeat=count):
                    rows = [(k, f"new{at}") for at, k in enumerate(places)]
                    at = self.at_by_hand(one, many, rows)
                    if at is None:
                        made = [dict(rows).get(k) or one[k] for k in range(many)]
                        self.assertEqual(changed(one, (many, rows)), made)
                        some += 1
                    else:
                        self.assert_refused(one, (many, rows), at)
        self.assertGreater(some, 30)

    def test_very_great(self):
        self.assert_refused(["a"], (GREAT, [(0, "x")]), 1)
        self.assert_refused(["a"], (10 ** 5000, [(0, "x"), (GREAT, "y")]), 2)

    def test_somewhat_beyond(self):
        self.assertEqual(changed([str(at) for at in range(401)], (401, [(400, "x")]))[399:], ["399", "x"])
        self.assertEqual(changes([], ["a"] * 401)[0], 401)
        self.assertEqual(changed(["a", "b"], (-1, [])), [])

    def test_the_class(self):
        self.assertEqual(NoChange.__bases__, (ChartError,))


if __name__ == "__main__":
    unittest.main()
