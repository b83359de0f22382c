"""Sheets: [17] to [19], and [2] as far as it speaks of them."""

import copy
import itertools
import sys
import unittest
from fractions import Fraction
from pathlib import Path

sys.path.insert(0, str(Path(__file__).resolve().parent))

from made_plans import KINDS, level_by_hand, made_plans, pair, sheet_by_hand, text_by_hand
from chartscribe.drawings import Bars, Lines, Shares, Stacks
from chartscribe.plans import is_plan, plan_of, starts_of
from chartscribe.scales import Scale
from chartscribe.sheets import sheet_of
from chartscribe.tabletexts import read_table

PLANS = made_plans(17, 150)
MARKS, LEVELS, NAMES, SERIES = 3, 4, 5, 6


def marks(*texts):
    return [pair(Fraction(text)) for text in texts]


def lines_of(text):
    """The texts of a sheet that is drawn in this file, each behind a colon."""
    return [line.strip()[1:] for line in text.strip().split("\n")]


def plan_with(kind, width, rows, axis, levels, names=None, series=None):
    """A plan with names and series of its own where none are given."""
    names = [None] * len(levels) if names is None else names
    return (kind, width, rows, axis, levels, names, ["s", "t", "u", "v"][:len(levels[0])] if series is None else series)


class SheetCase(unittest.TestCase):
    def assert_sheet(self, plan, text):
        self.assertTrue(is_plan(plan), plan)
        self.assertEqual(sheet_of(plan), lines_of(text))

    def picture_of(self, plan):
        """The texts of the levels from 0 up, behind the axis."""
        sheet = sheet_of(plan)
        long = max(len(text_by_hand(mark)) for mark in plan[MARKS])
        return [line[long + 1:] for line in sheet[plan[2] + 1:0:-1]]


class TestByHand(SheetCase):
    TABLE = "series apples pears\nmay 3 4.5\njune 17 0\njuly -4 8"

    def test_bars(self):
        self.assert_sheet(plan_of(Bars(read_table(self.TABLE), 12, 2)), """
            :bars 2
            :20|
            :  |     ##
            :15|     ##
            :  |     ##
            :  |     ##
            :10|     ##
            :  |     ##     ++
            : 5|  ++ ##     ++
            :  |##++ ##     ++
            :  |##++ ##     ++
            : 0|--------------
            :  |          ##
            :-5|          ##
            :   may  june july
            :# apples
            :+ pears
            """)

    def test_lines(self):
        self.assert_sheet(plan_of(Lines(read_table(self.TABLE), 12, 2)), """
            :lines 2
            :20|
            :  |     ##
            :15|     ||   ||
            :  |     ||   ||
            :  |     ||   ||
            :10|     ||   ||
            :  |     ||   ||++
            : 5|  ++ ||   ||||
            :  |##     || ||||
            :  |       || ||||
            : 0|       ++ ||
            :  |          ||
            :-5|          ##
            :   may  june july
            :# apples
            :+ pears
            """)

    def test_stacks(self):
        table = read_table(self.TABLE.replace("-4", "4"))
        self.assert_sheet(plan_of(Stacks(table, 12, 2)), """
            :stacks 2
            :20|
            :  |
            :  |   ##
            :15|   ##
            :  |   ##
            :  |   ## ++
            :10|   ## ++
            :  |++ ## ++
            :  |++ ## ++
            : 5|++ ## ++
            :  |## ## ##
            :  |## ## ##
            : 0|--------
            :   may   july
            :# apples
            :+ pears
            """)

    def test_shares(self):
        table = read_table(self.TABLE.replace("-4", "4") + "\nmarch 0 0")
        self.assert_sheet(plan_of(Shares(table, 5, 1)), """
            :shares 1
            :100|+ # +
            :   |+ # +
            : 50|+ # +
            :   |# # #
            :   |# # #
            :  0|-------
            :    may july
            :# apples
            :+ pears
            """)

    def test_bars_below_and_above(self):
        self.assert_sheet(plan_with("bars", 1, 4, marks("-1", "0", "1"), [[0, 4], [2, 2], [1, 3]], ["a", "b", "c"]), """
            :bars 1
            : 1| +
            :  | +     +
            : 0|--------
            :  |#     #
            :-1|#
            :   a  b  c
            :# s
            :+ t
            """)

    def test_four_series_without_names(self):
        self.assert_sheet(plan_with("lines", 1, 3, marks("0.5", "1"), [[0, 1, 2, 3], [3, 2, 1, 0]]), """
            :lines 1
            :  1|   x #
            :   |  o  |+ |
            :   | +   | o|
            :0.5|#       x
            :
            :# s
            :+ t
            :o u
            :x v
            """)


class TestSheetOf(SheetCase):
    def test_sign_by_sign(self):
        for plan in PLANS:
            self.assertTrue(is_plan(plan), plan)
            self.assertEqual(sheet_of(plan), sheet_by_hand(plan), plan)

    def test_a_list_of_texts(self):
        for plan in PLANS:
            told = sheet_of(plan)
            self.assertIs(type(told), list)
            self.assertEqual({type(line) for line in told}, {str})
            self.assertEqual(len(told), 1 + plan[2] + 1 + 1 + len(plan[SERIES]))
            for line in told:
                self.assertFalse(line.endswith(" "))
                self.assertNotIn("\n", line)

    def test_the_first(self):
        for plan in PLANS:
            self.assertEqual(sheet_of(plan)[0], plan[0] + " " + str(plan[1]))

    def test_the_series(self):
        for kind, many in itertools.product(KINDS, range(1, 5)):
            names = ["apples", "x", "abcdefghij", "o"][:many]
            told = sheet_of(plan_with(kind, 1, 2, marks("0", "100"), [[0] * many], ["a"], names))
            self.assertEqual(told[-many:], ["# apples", "+ x", "o abcdefghij", "x o"][:many])
            self.assertEqual(len(told), 5 + many)

    def test_the_plan_handed_in_stays(self):
        for plan in PLANS:
            kept = copy.deepcopy(plan)
            sheet_of(plan)
            self.assertEqual(plan, kept)

    def test_the_told_list_is_new_each_time(self):
        for plan in PLANS[:40]:
            told = sheet_of(plan)
            kept = list(told)
            told[0] = "x"
            told.append("y")
            self.assertEqual(sheet_of(plan), kept)

    def test_the_plan_changed_behind_it_changes_nothing(self):
        for plan in copy.deepcopy(PLANS[:40]):
            told = sheet_of(plan)
            kept = list(told)
            plan[LEVELS][0][0] += 1
            plan[NAMES][0] = "x"
            plan[SERIES][0] = "y"
            self.assertEqual(told, kept)


class TestMarks(SheetCase):
    AXES = [marks(*texts.split()) for texts in [
        "0 1", "-1 0 1", "-10 -5 0 5", "95 100 105", "-0.5 0 0.5 1", "999 1000", "-1 0", "0.000000000001 0.000000000002",
        "999999999999998 999999999999999", "-999999999999999 -999999999999998", "0 0.05 0.1 0.15", "-200 0 200",
        "123456789012345 123456789012345.000000000001", "-100000000000000 0", "9.8 10 10.2", "0.5 1 1.5 2 2.5 3",
    ]]

    def labels(self, plan):
        """For each level, from 0 up, what stands ahead of the axis."""
        long = max(len(text_by_hand(mark)) for mark in plan[MARKS])
        lines = sheet_of(plan)[plan[2] + 1:0:-1]
        self.assertEqual({line[long] for line in lines}, {"|"})
        return [line[:long] for line in lines]

    def test_each_mark_at_its_level_and_blanks_elsewhere(self):
        for axis, rows in itertools.product(self.AXES, range(2, 41)):
            if len(axis) <= rows // 2 + 2:
                labels = self.labels(plan_with("lines", 1, rows, axis, [[0]]))
                scale = Scale(axis[0], axis[-1], rows)
                at = {scale.level(mark): text_by_hand(mark) for mark in axis}
                long = max(len(text) for text in at.values())
                self.assertEqual(labels, [at.get(level, "").rjust(long) for level in range(rows + 1)])
                self.assertEqual(labels[0].strip(), text_by_hand(axis[0]))
                self.assertEqual(labels[rows].strip(), text_by_hand(axis[-1]))

    def test_as_many_as_are_let(self):
        for rows in range(2, 41):
            axis = [(at, 1) for at in range(rows // 2 + 2)]
            labels = self.labels(plan_with("stacks", 1, rows, axis, [[0]]))
            told = [label.strip() for label in labels if label.strip()]
            self.assertEqual(told, [str(at) for at in range(rows // 2 + 2)])
            self.assertEqual([level for level in range(rows + 1) if labels[level].strip()],
                             [level_by_hand(axis, rows, at) for at in range(rows // 2 + 2)])

    def test_by_hand(self):
        plan = plan_with("lines", 1, 3, marks("-0.5", "0", "0.5"), [[1]])
        self.assertEqual(sheet_of(plan)[1:5], [" 0.5|", "   0|", "    |#", "-0.5|"])
        plan = plan_with("lines", 1, 2, marks("999999999999999.999999999998", "999999999999999.999999999999"), [[1]])
        self.assertEqual(sheet_of(plan)[1:4], [
            "999999999999999.999999999999|", " " * 28 + "|#", "999999999999999.999999999998|"])


class TestPicture(SheetCase):
    def test_bars_at_each_level_over_each_ground(self):
        for rows, below in ((4, 0), (4, 1), (4, 2), (5, 1), (3, 1), (2, 1)):
            axis = [(at - below, 1) for at in range(3)]
            ground = level_by_hand(axis, rows, 0)
            for own in range(rows + 1):
                picture = self.picture_of(plan_with("bars", 2, rows, axis, [[own]]))
                for level in range(rows + 1):
                    stands = ground < level <= own or own <= level < ground
                    self.assertEqual(picture[level], "--" if level == ground else "##" if stands else "")

    def test_the_ground_goes_from_the_first_column_to_the_last(self):
        for kind, width, bands, series in itertools.product(("bars", "stacks", "shares"), (1, 6), (1, 2, 12), (1, 2, 4)):
            picture = self.picture_of(plan_with(kind, width, 2, marks("0", "100"), [[0] * series] * bands))
            lanes = series if kind == "bars" else 1
            self.assertEqual(picture, ["-" * (bands * (lanes * width + 1) - 1), "", ""])

    def test_a_ground_at_the_last_mark(self):
        picture = self.picture_of(plan_with("bars", 1, 3, marks("-5", "0"), [[3], [0], [2]]))
        self.assertEqual(picture, ["  #", "  #", "  # #", "-----"])

    def test_stacks_with_pieces_without_a_level(self):
        levels = [[0, 0, 4, 4], [1, 1, 1, 1], [0, 2, 2, 3], [0, 0, 0, 0], [4, 4, 4, 4], [0, 0, 0, 4], [1, 2, 3, 4]]
        for kind in ("stacks", "shares"):
            own = levels if kind == "stacks" else [levels[0], levels[3], levels[4], levels[5], levels[6]]
            picture = self.picture_of(plan_with(kind, 1, 4, marks("0", "100"), own))
            if kind == "stacks":
                self.assertEqual(picture, ["-" * 13, "o # +   # x #", "o   +   # x +", "o   x   # x o", "o       # x x"])
            else:
                self.assertEqual(picture, ["-" * 9, "o   # x #", "o   # x +", "o   # x o", "o   # x x"])

    def test_lines_up_down_level_and_one_apart(self):
        levels = [[0], [4], [4], [3], [0], [1], [1], [3]]
        picture = self.picture_of(plan_with("lines", 1, 4, marks("0", "100"), levels))
        self.assertEqual(picture, [
            "#       #",
            "  |     | # #",
            "  |     |     |",
            "  |   #       #",
            "  # #",
        ])

    def test_a_line_between_each_two_levels(self):
        for ahead, own in itertools.product(range(6), repeat=2):
            picture = self.picture_of(plan_with("lines", 2, 5, marks("10", "20"), [[ahead, 0], [own, 0]]))
            for level in range(6):
                row = picture[level].ljust(9)
                self.assertEqual(row[:2], "##" if level == ahead else "  ")
                between = min(ahead, own) < level < max(ahead, own)
                self.assertEqual(row[5:7], "##" if level == own else "||" if between else "  ")

    def test_each_width(self):
        for kind, width in itertools.product(KINDS, range(1, 7)):
            picture = self.picture_of(plan_with(kind, width, 2, marks("0", "100"), [[2, 2], [2, 2]]))
            two = "#" * width if kind in ("stacks", "shares") else "#" * width + "+" * width
            self.assertEqual(picture[2], two + " " + two)

    def test_the_gap_is_blank_but_on_the_ground(self):
        for plan in PLANS:
            kind, width, rows, axis, levels, names, series = plan
            ground = {"bars": level_by_hand(axis, rows, 0), "lines": None}.get(kind, 0)
            for start in starts_of(kind, width, len(levels), len(series))[1:]:
                for level, row in enumerate(self.picture_of(plan)):
                    self.assertEqual(row[start - 1:start].strip(" "), "-" if level == ground else "")


class TestNames(SheetCase):
    def names_text(self, kind, width, names, series=1, axis=marks("0", "100")):
        plan = plan_with(kind, width, 4, axis, [[0] * series for name in names], names)
        self.assertTrue(is_plan(plan), plan)
        return sheet_of(plan)[6]

    def test_by_hand(self):
        for kind in ("stacks", "shares"):
            self.assertEqual(self.names_text(kind, 3, ["may", "a", "b"]), "    may a   b")
            self.assertEqual(self.names_text(kind, 3, [None, "a", None], 4), "        a")
        for kind in ("bars", "lines"):
            self.assertEqual(self.names_text(kind, 3, ["may", "a", "b"]), "    may a   b")
            self.assertEqual(self.names_text(kind, 1, ["may", "a", "b"], 3), "    may a   b")
            self.assertEqual(self.names_text(kind, 2, [None, "a", None], 4), "             a")

    def test_at_none_the_text_without_signs(self):
        for kind, bands in itertools.product(KINDS, (1, 2, 12)):
            self.assertEqual(self.names_text(kind, 3, [None] * bands), "")

    def test_up_to_the_next_one_but_a_blank(self):
        for kind in KINDS:
            self.assertEqual(self.names_text(kind, 4, ["abcd", "efgh", "i"]), "    abcd efgh i")
            self.assertEqual(self.names_text(kind, 4, ["abcdefghi", None, "jklmnopqrs"]), "    abcdefghi jklmnopqrs")
            self.assertEqual(self.names_text(kind, 1, [None, None, "abcdefghij"]), "        abcdefghij")

    def test_behind_longer_marks(self):
        self.assertEqual(self.names_text("lines", 2, ["ab", "cd"], axis=marks("-0.5", "0", "0.5")), "     ab cd")
        self.assertEqual(self.names_text("stacks", 2, ["ab", "cd"], axis=marks("0", "1")), "  ab cd")

    def test_each_at_the_first_column_of_its_band(self):
        for plan in PLANS:
            kind, width, rows, axis, levels, names, series = plan
            text = sheet_of(plan)[rows + 2]
            long = max(len(text_by_hand(mark)) for mark in axis)
            starts = starts_of(kind, width, len(levels), len(series))
            for name, start in zip(names, starts):
                if name is not None:
                    self.assertEqual((" " + text + " ")[long + 1 + start:][:len(name) + 2], " " + name + " ")
            self.assertEqual(text.split(), [name for name in names if name is not None])


if __name__ == "__main__":
    unittest.main()
