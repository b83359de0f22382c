"""Plans: [15], [16], and [2] and [3] as far as they speak of them."""

import copy
import itertools
import random
import unittest
from fractions import Fraction

from chartscribe.drawings import Bars, Lines, Shares, Stacks
from chartscribe.marks import marks_of
from chartscribe.placing import placed
from chartscribe.plans import is_plan, left_out, plan_of, starts_of
from chartscribe.tables import table_of

KINDS = {"bars": Bars, "stacks": Stacks, "shares": Shares, "lines": Lines}
SERIES = ["apples", "pears", "figs", "plums"]
MONTHS = ["january", "february", "march", "april", "may", "june", "july", "august", "september", "october", "november",
          "december"]
SHORT = list("abcdefghijkl")
# The places in a plan.
KIND, WIDTH, ROWS, MARKS, LEVELS, NAMES, IN_SERIES = range(7)
ROUND = {lead * Fraction(10) ** power for power in range(-20, 20) for lead in (1, 2, 5)}


def pair(worth):
    return (worth.numerator, worth.denominator)


def marks(*texts):
    return [pair(Fraction(text)) for text in texts]


def tables(signed):
    """Tables of many sizes, with long names and short ones."""
    chance = random.Random(15)
    for bands, series in itertools.product((1, 2, 3, 7, 12), (1, 2, 3, 4)):
        for names in (MONTHS, SHORT, chance.sample(MONTHS[:6] + SHORT[:6], 12)):
            low = -50 if signed else 0
            rows = [(name, [(chance.randint(low, 50), 1) for place in range(series)]) for name in names[:bands]]
            yield table_of(SERIES[:series], rows)


def drawings():
    """Drawings of all kinds and widths."""
    for kind, made_by in KINDS.items():
        for made in tables(kind in ("bars", "lines")):
            for rows, width in ((2, 1), (3, 2), (8, 3), (12, 4), (39, 5), (40, 6)):
                yield made_by(made, rows, width)


class TestStartsOf(unittest.TestCase):
    def test_by_hand(self):
        for kind, width, bands, series, told in [
            ("bars", 1, 1, 1, [0]), ("bars", 1, 3, 1, [0, 2, 4]), ("bars", 2, 3, 3, [0, 7, 14]), ("lines", 6, 2, 4, [0, 25]),
            ("lines", 1, 4, 2, [0, 3, 6, 9]), ("stacks", 1, 3, 4, [0, 2, 4]), ("stacks", 6, 3, 2, [0, 7, 14]),
            ("shares", 3, 4, 4, [0, 4, 8, 12]), ("shares", 1, 1, 4, [0]), ("bars", 6, 12, 4, list(range(0, 300, 25))),
        ]:
            with self.subTest((kind, width, bands, series)):
                self.assertEqual(starts_of(kind, width, bands, series), told)

    def columns(self, kind, width, bands, series):
        """The picture's columns, one by one: the number of the band, or None for a gap."""
        for band in range(bands):
            if band > 0:
                yield None
            for lane in range(series if kind in ("bars", "lines") else 1):
                yield from [band] * width

    def test_each_band_by_its_columns(self):
        for kind, width, bands, series in itertools.product(KINDS, range(1, 7), range(1, 13), range(1, 5)):
            columns = list(self.columns(kind, width, bands, series))
            told = starts_of(kind, width, bands, series)
            self.assertIs(type(told), list)
            self.assertEqual([type(start) for start in told], [int] * bands)
            self.assertEqual(told, [columns.index(band) for band in range(bands)])

    def test_new_each_time(self):
        told = starts_of("bars", 2, 3, 2)
        told[0] = 99
        told.append(7)
        self.assertEqual(starts_of("bars", 2, 3, 2), [0, 5, 10])

    def test_somewhat_beyond(self):
        self.assertEqual(starts_of("bars", 7, 13, 5), [at * 36 for at in range(13)])
        self.assertEqual(starts_of("shares", 10 ** 30, 2, 1), [0, 10 ** 30 + 1])
        self.assertEqual(starts_of("stacks", 1, 0, 1), [])


class TestPlanOf(unittest.TestCase):
    def test_by_hand(self):
        made = table_of(["apples", "pears"], [("may", [(3, 1), (9, 2)]), ("june", [(17, 1), (0, 1)])])
        axis = marks("0", "5", "10", "15", "20")
        for kind, width, names, out in [
            ("bars", 1, ["may", None], ["june"]), ("bars", 2, ["may", "june"], []), ("lines", 1, ["may", None], ["june"]),
            ("stacks", 1, ["may", None], ["june"]), ("stacks", 2, ["may", None], ["june"]), ("stacks", 3, ["may", "june"], []),
        ]:
            drawn = KINDS[kind](made, 8, width)
            with self.subTest(kind=kind, width=width):
                levels = [[1, 3], [7, 7]] if kind == "stacks" else [[1, 2], [7, 0]]
                self.assertEqual(plan_of(drawn), (kind, width, 8, axis, levels, names, ["apples", "pears"]))
                self.assertEqual(left_out(drawn), out)
        drawn = Shares(made, 8, 6)
        hundreds = marks("0", "20", "40", "60", "80", "100")
        self.assertEqual(
            plan_of(drawn), ("shares", 6, 8, hundreds, [[3, 8], [8, 8]], ["may", "june"], ["apples", "pears"]))
        self.assertEqual(left_out(drawn), [])

    def test_a_tuple_of_seven(self):
        for made in drawings():
            told = plan_of(made)
            self.assertIs(type(told), tuple)
            kinds = [str, int, int, list, list, list, list]
            self.assertEqual([type(part) for part in told], kinds)
            kind, width, rows, axis, levels, names, series = told
            self.assertEqual((kind, width, rows), (made.kind(), made.width, made.rows))
            self.assertEqual((axis, levels), (made.marks(), made.levels()))
            self.assertEqual(series, list(made.table[0]))

    def test_names_by_the_first_columns_of_their_bands(self):
        for made in drawings():
            names = [name for name, numbers in made.table[1]]
            starts = starts_of(made.kind(), made.width, len(names), len(made.table[0]))
            self.assertEqual(plan_of(made)[NAMES], placed(names, starts))

    def test_left_out_are_the_others_in_their_order(self):
        some = 0
        for made in drawings():
            names = [name for name, numbers in made.table[1]]
            kept = plan_of(made)[NAMES]
            told = left_out(made)
            self.assertIs(type(told), list)
            self.assertEqual(told, [name for name, its in zip(names, kept) if its is None])
            self.assertEqual(sorted(told + [name for name in kept if name is not None]), sorted(names))
            some += len(told)
        self.assertGreater(some, 0)

    def test_the_lists_are_new_each_time(self):
        for made in drawings():
            told, out = plan_of(made), left_out(made)
            kept = copy.deepcopy((told, out))
            for row in told[LEVELS]:
                row[0] = 99
                row.append(99)
            for part in told[MARKS:] + (out,):
                part.append("x")
                part[0] = "y"
            self.assertEqual((plan_of(made), left_out(made)), kept)

    def test_the_drawing_handed_in_stays(self):
        for made in drawings():
            kept = dict(vars(made))
            plan_of(made), left_out(made)
            self.assertEqual(vars(made), kept)

    def test_another_plan_told_later_changes_nothing(self):
        made = table_of(["apples"], [("may", [(3, 1)]), ("june", [(17, 1)])])
        told = plan_of(Bars(made, 8, 2))
        kept = copy.deepcopy(told)
        plan_of(Bars(made, 3, 1)), plan_of(Lines(made, 8, 2))
        self.assertEqual(told, kept)


# Plans of each kind that hold by [16], to be changed in one part.
PLANS = {
    "bars": ("bars", 2, 4, marks("-5", "0", "5", "10"), [[0, 4], [1, 3], [4, 0]], ["may", None, "july"], ["apples", "pears"]),
    "stacks": ("stacks", 2, 4, marks("0", "5", "10"), [[0, 4], [1, 1], [0, 0]], ["a", "b", "c"], ["apples", "pears"]),
    "shares": ("shares", 2, 4, marks("0", "50", "100"), [[0, 4], [1, 4], [0, 0]], ["a", None, "c"], ["apples", "pears"]),
    "lines": ("lines", 2, 4, marks("10", "15", "20"), [[0, 4], [1, 3], [4, 0]], [None, "june", None], ["apples", "pears"]),
}


def changed(plan, at, part):
    return plan[:at] + (part,) + plan[at + 1:]


class TestIsPlan(unittest.TestCase):
    def assert_plan(self, thing, told):
        kept = copy.deepcopy(thing)
        self.assertIs(is_plan(thing), told, thing)
        self.assertEqual(thing, kept)

    def assert_parts(self, kind, at, holding, failing):
        for part in holding:
            self.assert_plan(changed(PLANS[kind], at, part), True)
        for part in failing:
            self.assert_plan(changed(PLANS[kind], at, part), False)

    def each(self, at, holding, failing):
        for kind in PLANS:
            self.assert_parts(kind, at, holding, failing)

    def test_the_plan_of_each_drawing(self):
        for made in drawings():
            self.assert_plan(plan_of(made), True)

    def test_these(self):
        for plan in PLANS.values():
            self.assert_plan(plan, True)

    def test_kind(self):
        self.each(KIND, [], ["", "bar", "Bars", "bars ", " bars", "pies", "barsstacks", "linesx", "a", "\n"])
        self.assert_plan(changed(PLANS["bars"], KIND, "lines"), True)
        self.assert_plan(changed(PLANS["bars"], KIND, "stacks"), False)
        self.assert_plan(changed(PLANS["stacks"], KIND, "bars"), True)
        self.assert_plan(changed(PLANS["stacks"], KIND, "shares"), False)
        self.assert_plan(changed(PLANS["shares"], KIND, "stacks"), True)
        self.assert_plan(changed(PLANS["lines"], KIND, "bars"), False)

    def test_width(self):
        self.each(WIDTH, [2, 3, 4, 5, 6], [0, 7, -1, -2, 8, 10 ** 30])
        self.assert_parts("stacks", WIDTH, [1], [])
        self.assert_parts("lines", WIDTH, [1], [])

    def test_rows(self):
        self.each(ROWS, [], [1, 0, -1, -4, 41, 42, 10 ** 30, -(10 ** 30)])
        for kind in ("bars", "stacks", "lines"):
            axis = marks("0", "1", "2")
            levels = [[0, 2], [1, 1], [2, 2]]
            for rows, told in [(1, False), (2, True), (3, True), (39, True), (40, True), (41, False)]:
                self.assert_plan((kind, 2, rows, axis, levels, ["a", "b", "c"], ["x", "y"]), told)
        for rows, told in [(1, False), (2, True), (3, True), (39, True), (40, True), (41, False)]:
            self.assert_plan(
                ("shares", 2, rows, marks("0", "50", "100"), [[0, rows], [rows, rows]], [None, "b"], ["x", "y"]), told)

    def test_how_many_marks(self):
        for rows in range(2, 41):
            most = rows // 2 + 2
            for many in range(most + 3):
                for kind in ("bars", "stacks", "lines"):
                    axis = [(at, 1) for at in range(many)]
                    self.assert_plan((kind, 1, rows, axis, [[0]], ["a"], ["x"]), 2 <= many <= most)
        for rows in range(2, 41):
            for step in (1, 2, 5, 10, 20, 50, 100):
                axis = [(mark, 1) for mark in range(0, 101, step)]
                self.assert_plan(("shares", 1, rows, axis, [[0]], ["a"], ["x"]), len(axis) <= rows // 2 + 2)

    def test_marks_of_lines(self):
        self.assert_parts("lines", MARKS, [
            marks("0", "1"), marks("-1", "0"), marks("1", "2"), marks("-3", "-2", "-1"), marks("-2", "0", "2"),
            marks("0.1", "0.2", "0.3"), marks("0.000000000001", "0.000000000002"), marks("-0.5", "0", "0.5"),
            marks("999999999999998", "999999999999999"), marks("0", "500000000000000"), marks("0", "100000000000000"),
            marks("-999999999999999", "-999999999999998"), marks("-500000000000000", "0", "500000000000000"),
            marks("123456789012345.5", "123456789012346"), marks("1.000000000001", "1.000000000002"),
            marks("7", "8", "9", "10"), marks("95", "100", "105"), marks("0.95", "1", "1.05"), marks("200", "400", "600"),
        ], [
            [], marks("0"), marks("10"),
            # falling, twice the same
            marks("20", "15", "10"), marks("1", "0"), marks("10", "20", "15"), marks("10", "10"), marks("0", "0", "0"),
            marks("10", "10", "20"), marks("10", "20", "20"),
            # of a step that isn't round
            marks("0", "3"), marks("0", "4", "8"), marks("0", "15", "30"), marks("0", "0.25", "0.5"), marks("0", "2.5", "5"),
            marks("0", "12"), marks("0", "60"), marks("0", "0.3"), marks("0", "1.1"),
            # of unlike steps
            marks("0", "1", "3"), marks("0", "2", "3"), marks("0", "5", "10", "20"), marks("0", "10", "15"),
            # no multiples of the step
            marks("0.5", "1.5"), marks("1", "3"), marks("5", "15", "25"), marks("2.5", "7.5"), marks("1", "6", "11"),
            marks("-1", "1"), marks("-0.5", "0.5"), marks("0.05", "0.15"), marks("50", "150"), marks("1", "11"),
            # not written
            marks("1/3", "2/3"), marks("0", "1/3"), marks("0.0000000000001", "0.0000000000002"),
            marks("0", "1000000000000000"), marks("-1000000000000000", "0"), marks("999999999999999", "1000000000000000"),
            marks("0", "0.0000000000005"), [(0, 1), (10 ** 5000, 1)], [(0, 1), (1, 10 ** 5000)],
            [(10 ** 5000, 1), (10 ** 5000 + 1, 1)],
            # too many
            marks("0", "1", "2", "3", "4"),
        ])

    def test_marks_of_bars(self):
        self.assert_parts("bars", MARKS, [
            marks("0", "1"), marks("-1", "0"), marks("-1", "0", "1"), marks("-10", "-5", "0"), marks("0", "5", "10", "15"),
        ], [marks("1", "2"), marks("-2", "-1"), marks("5", "10"), marks("100", "200", "300"), marks("-0.5", "0.5")])

    def test_marks_of_stacks(self):
        self.assert_parts("stacks", MARKS, [
            marks("0", "1"), marks("0", "0.5", "1"), marks("0", "20", "40", "60"), marks("0", "100"),
        ], [
            marks("-1", "0"), marks("-1", "0", "1"), marks("1", "2"), marks("5", "10"), marks("0", "3"), marks("-5", "0", "5"),
        ])

    def test_marks_of_shares(self):
        self.assert_parts("shares", MARKS, [marks("0", "50", "100"), marks("0", "100")], [
            marks("0", "50"), marks("50", "100"), marks("0", "50", "100", "150"), marks("-50", "0", "50", "100"),
            marks("0", "1"), marks("0", "10", "20"), marks("0", "200"), marks("-100", "0", "100"), marks("0", "25", "50"),
            marks("100", "200"),
        ])

    def test_no_series_five_no_name_two_alike(self):
        self.each(IN_SERIES, [["a", "b"], ["b", "a"], ["z" * 10, "x"], ["bars", "series"], ["may", "a"]], [
            [], ["a"], ["a", "a"], ["a", "b", "c"], ["a", ""], ["", "b"], ["A", "b"], ["a", "b1"], ["a b", "c"],
            ["a", "elevensigns"], ["a", "b\n"], ["a", "-"], ["a", " "], ["a", "b", "c", "d", "e"],
        ])
        for kind, many in itertools.product(PLANS, range(7)):
            names = ["a", "b", "c", "d", "e", "f"][:many]
            axis = marks("0", "100")
            self.assert_plan((kind, 1, 5, axis, [[0] * many], ["x"], names), 1 <= many <= 4)
            if many > 1:
                self.assert_plan((kind, 1, 5, axis, [[0] * many], ["x"], names[:-1] + ["a"]), False)
                self.assert_plan((kind, 1, 5, axis, [[0] * many], ["x"], names[:-1] + ["E"]), False)

    def test_how_many_lists_of_levels(self):
        names = list("abcdefghijklmn")
        for kind, bands in itertools.product(PLANS, range(15)):
            thing = (kind, 1, 5, marks("0", "100"), [[0, 5]] * bands, names[:bands], ["x", "y"])
            self.assert_plan(thing, 1 <= bands <= 12)

    def test_a_list_with_a_level_too_few_or_too_many(self):
        levels = PLANS["shares"][LEVELS]
        for at in range(3):
            for row in ([], [4], [0], [0, 4, 4], [0, 0, 0], [0, 0, 4, 4]):
                self.each(LEVELS, [], [levels[:at] + [row] + levels[at + 1:]])

    def test_a_level_of_each_size(self):
        for at, place in itertools.product(range(3), range(2)):
            for level in (-(10 ** 30), -2, -1, 0, 1, 2, 3, 4, 5, 6, 10 ** 30):
                for kind in ("bars", "lines"):
                    levels = copy.deepcopy(PLANS[kind][LEVELS])
                    levels[at][place] = level
                    self.assert_plan(changed(PLANS[kind], LEVELS, levels), 0 <= level <= 4)
                for kind in ("stacks", "shares"):
                    levels = copy.deepcopy(PLANS[kind][LEVELS])
                    levels[at][place] = level
                    first, last = levels[at]
                    holds = 0 <= first <= last <= 4 and (kind == "stacks" or last in (0, 4))
                    self.assert_plan(changed(PLANS[kind], LEVELS, levels), holds)

    def test_falling_ones(self):
        for row in itertools.product(range(5), repeat=3):
            for kind in PLANS:
                holds = kind in ("bars", "lines") or row[0] <= row[1] <= row[2] and (kind == "stacks" or row[2] in (0, 4))
                for levels in ([list(row)], [[0, 0, 0], list(row)], [list(row), [4, 4, 4]]):
                    names = ["a", None][:len(levels)]
                    self.assert_plan((kind, 1, 4, marks("0", "100"), levels, names, ["x", "y", "z"]), holds)

    def test_names(self):
        self.each(NAMES, [[None, None, None], ["a", "b", "c"], ["a", None, None], [None, None, "c"], ["apples", None, None]], [
            # too few or too many
            [], ["a"], ["a", "b"], ["a", "b", "c", "d"], ["a", "b", None, None], [None, None], [None] * 4,
            # one that is none
            ["", None, None], [None, "A", None], ["a", "b", "c d"], ["a", "b", "1"], [None, None, "elevensigns"], ["-", "b", "c"],
            ["a", "b\n", None],
            # two alike
            ["a", "a", None], ["a", None, "a"], [None, "b", "b"], ["a", "a", "a"],
        ])
        # The last one may go behind the picture.
        self.each(NAMES, [[None, None, "z" * 10]], [])

    def test_two_that_touch(self):
        # Of stacks and shares a band begins each 3 columns, of bars and lines each 5.
        for kinds, gap in ((("stacks", "shares"), 3), (("bars", "lines"), 5)):
            for kind, long in itertools.product(kinds, range(1, 11)):
                name = "abcdefghij"[:long]
                for names, holds in [
                    ([name, "x", None], long < gap), ([None, name, "x"], long < gap), ([name, None, "x"], long < 2 * gap),
                    ([name, "x", "y"], long < gap), (["x", name, "y"], long < gap), (["x", "y", name], True),
                    ([name, None, None], True),
                ]:
                    self.assert_plan(changed(PLANS[kind], NAMES, names), holds)

    def test_the_first_columns_go_by_width_and_series(self):
        for kind, width, series in itertools.product(PLANS, range(1, 7), range(1, 5)):
            for long in range(1, 11):
                lanes = series if kind in ("bars", "lines") else 1
                thing = (kind, width, 5, marks("0", "100"), [[5] * series] * 2, ["a" * long, "b"], list("wxyz")[:series])
                self.assert_plan(thing, long < lanes * width + 1)


def holds_by_hand(thing):
    """[16], written out once more, over Python's own fractions."""
    kind, width, rows, axis, levels, names, series = thing
    worths = [Fraction(*mark) for mark in axis]
    if kind not in KINDS or width not in range(1, 7) or rows not in range(2, 41):
        return False
    if not 2 <= len(worths) <= rows // 2 + 2:
        return False
    if any(10 ** 12 % worth.denominator or abs(worth) >= 10 ** 15 for worth in worths):
        return False
    step = worths[1] - worths[0]
    if step not in ROUND or (worths[0] / step).denominator != 1:
        return False
    if worths != [worths[0] + at * step for at in range(len(worths))]:
        return False
    if not {"bars": 0 in worths, "stacks": worths[0] == 0, "shares": (worths[0], worths[-1]) == (0, 100), "lines": True}[kind]:
        return False

    def is_name(name):
        return name.isascii() and name.isalpha() and name.islower() and len(name) <= 10
    if len(series) not in range(1, 5) or not all(map(is_name, series)) or len(set(series)) < len(series):
        return False
    if len(levels) not in range(1, 13) or any(len(row) != len(series) for row in levels):
        return False
    if any(level not in range(rows + 1) for row in levels for level in row):
        return False
    if kind in ("stacks", "shares") and any(row != sorted(row) for row in levels):
        return False
    if kind == "shares" and any(row[-1] not in (0, rows) for row in levels):
        return False
    given = [name for name in names if name is not None]
    if len(names) != len(levels) or not all(map(is_name, given)) or len(set(given)) < len(given):
        return False
    line = set()
    for at, name in enumerate(names):
        if name is not None:
            start = at * ((len(series) if kind in ("bars", "lines") else 1) * width + 1)
            if line & set(range(start - 1, start + len(name) + 1)):
                return False
            line |= set(range(start, start + len(name)))
    return True


class TestManyThings(unittest.TestCase):
    def other(self, chance, at, thing):
        """Another part for this place of the thing, perhaps a wrong one."""
        if at == KIND:
            return chance.choice([*KINDS, "pies"])
        if at == WIDTH:
            return chance.randint(0, 7)
        if at == ROWS:
            return chance.choice((1, 2, 3, thing[ROWS] + 1, thing[ROWS] - 1, 40, 41))
        if at == MARKS:
            low, high = sorted(chance.sample(range(-20, 21), 2))
            told = marks_of((low, 1), (high, chance.choice((1, 1, 3)) if high % 3 else 1), chance.randint(3, 22))
            return chance.choice((told, told[1:], told[::2], told[:2], told[::-1], thing[MARKS][:-1]))
        told = copy.deepcopy(thing[at])
        place = chance.randrange(len(told))
        if at == LEVELS:
            told[place][-1] += chance.choice((-1, 1))
        else:
            told[place] = chance.choice((told[place - 1], "x", "elevensigns", "longname") + (None,) * (at == NAMES))
        return chance.choice((told, told, told, told[1:], told + told[:1]))

    def test_as_the_document_says(self):
        chance = random.Random(16)
        plans = [plan_of(made) for made in drawings()]
        many = {True: 0, False: 0}
        for turn in range(6000):
            thing = copy.deepcopy(chance.choice(plans))
            for again in range(chance.choice((1, 1, 1, 2))):
                at = chance.randrange(7)
                if thing[at] != []:
                    thing = changed(thing, at, self.other(chance, at, thing))
            told = is_plan(thing)
            self.assertIs(told, holds_by_hand(thing), thing)
            many[told] += 1
        self.assertGreater(min(many.values()), 1000)


if __name__ == "__main__":
    unittest.main()
