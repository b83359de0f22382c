"""Sheets read again: [20], [21], and [2] and [3] as far as they speak of them."""

import copy
import itertools
import random
import sys
import unittest
from fractions import Fraction
from pathlib import Path

sys.path.insert(0, str(Path(__file__).resolve().parent))

from made_plans import made_plans, pair
from chartscribe.drawings import Bars, Lines, Shares, Stacks
from chartscribe.errors import NoSheet
from chartscribe.plans import is_plan, plan_of, starts_of
from chartscribe.reading import read_sheet, stretches_of
from chartscribe.sheets import sheet_of
from chartscribe.tables import table_of

KINDS = {"bars": Bars, "stacks": Stacks, "shares": Shares, "lines": Lines}
PLANS = made_plans(20, 150)
MARKS, LEVELS, NAMES, SERIES = 3, 4, 5, 6
# Every sign of which [2] speaks, and a line feed.
SIGNS = [chr(number) for number in range(32, 127) if chr(number) != "%"] + ["\n"]
BARS = [
    "bars 2",
    "20|",
    "  |     ##",
    "15|     ##",
    "  |     ##",
    "  |     ##",
    "10|     ##",
    "  |     ##     ++",
    " 5|  ++ ##     ++",
    "  |##++ ##     ++",
    "  |##++ ##     ++",
    " 0|--------------",
    "  |          ##",
    "-5|          ##",
    "   may  june july",
    "# apples",
    "+ pears",
]
BARS_PLAN = (
    "bars", 2, 12, [(-5, 1), (0, 1), (5, 1), (10, 1), (15, 1), (20, 1)], [[4, 5], [11, 2], [0, 6]], ["may", "june", "july"],
    ["apples", "pears"])


def with_line(lines, at, line):
    return lines[:at] + [line] + lines[at + 1:]


def with_sign(line, at, sign):
    return line[:at] + sign + line[at + 1:]


class ReadCase(unittest.TestCase):
    def assert_refused(self, lines):
        kept = list(lines)
        with self.assertRaises(NoSheet) as caught:
            read_sheet(lines)
        self.assertIs(type(caught.exception), NoSheet)
        self.assertEqual(lines, kept)

    def assert_refused_or_its_sheet(self, lines):
        """Whether it was read."""
        try:
            plan = read_sheet(lines)
        except NoSheet:
            return False
        self.assertTrue(is_plan(plan), lines)
        self.assertEqual(sheet_of(plan), lines)
        return True


class TestReadSheet(ReadCase):
    def test_by_hand(self):
        self.assertEqual(read_sheet(BARS), BARS_PLAN)
        lines = ["stacks 1", "  1|+", "0.5|# #", "  0|---", "    ab"[:4] + "a b", "# ox", "+ x"]
        plan = ("stacks", 1, 2, [(0, 1), (1, 2), (1, 1)], [[1, 2], [1, 1]], ["a", "b"], ["ox", "x"])
        self.assertEqual(read_sheet(lines), plan)
        lines = ["shares 3", "100|+++", "   |+++", " 50|###", "   |###", "  0|-------", "", "# s", "+ t"]
        plan = ("shares", 3, 4, [(0, 1), (50, 1), (100, 1)], [[2, 4], [0, 0]], [None, None], ["s", "t"])
        self.assertEqual(read_sheet(lines), plan)
        lines = ["lines 1", " 0| #|", "  | ||", "-1|# #", "   long", "# s"]
        self.assert_refused(lines)
        lines = ["lines 1", " 0|  #", "  |  | #", "-1|#", "   long", "# s"]
        self.assertEqual(read_sheet(lines), ("lines", 1, 2, [(-1, 1), (0, 1)], [[0], [2], [1]], ["long", None, None], ["s"]))

    def test_of_the_sheet_of_each_plan_the_plan(self):
        for plan in PLANS:
            self.assertEqual(read_sheet(sheet_of(plan)), plan)

    def test_the_kinds_of_things(self):
        for plan in PLANS:
            told = read_sheet(sheet_of(plan))
            self.assertIs(type(told), tuple)
            self.assertEqual([type(part) for part in told], [str, int, int, list, list, list, list])
            kind, width, rows, marks, levels, names, series = told
            for mark in marks:
                self.assertEqual((type(mark), [type(part) for part in mark]), (tuple, [int, int]))
            for band in levels:
                self.assertEqual((type(band), {type(level) for level in band}), (list, {int}))
            self.assertLessEqual({type(name) for name in names}, {str, type(None)})
            self.assertEqual({type(name) for name in series}, {str})

    def test_read_again_and_drawn_again(self):
        for plan in PLANS:
            sheet = sheet_of(plan)
            told = read_sheet(sheet)
            self.assertEqual(sheet_of(told), sheet)
            self.assertEqual(read_sheet(sheet_of(told)), told)

    def test_the_texts_handed_in_stay(self):
        for plan in PLANS:
            sheet = sheet_of(plan)
            kept = list(sheet)
            read_sheet(sheet)
            self.assertEqual(sheet, kept)

    def test_what_is_told_changed_changes_nothing(self):
        for plan in PLANS[:100]:
            sheet = sheet_of(plan)
            told = read_sheet(sheet)
            told[LEVELS][0][0] = 99
            for part in told[MARKS:]:
                part.append("x")
                part[0] = "y"
            self.assertEqual(read_sheet(sheet), plan)

    def test_the_texts_changed_behind_it_change_nothing(self):
        lines = list(BARS)
        told = read_sheet(lines)
        lines.clear()
        self.assertEqual(told, BARS_PLAN)

    def test_of_drawings(self):
        chance = random.Random(21)
        for kind, made_by in KINDS.items():
            for turn in range(40):
                low = -99 if kind in ("bars", "lines") else 0
                rows = [(name, [pair(Fraction(chance.randint(low, 99), 10)) for place in "st"]) for name in ("may", "june", "x")]
                plan = plan_of(made_by(table_of(["s", "t"], rows), chance.randint(2, 40), chance.randint(1, 6)))
                self.assertEqual(read_sheet(sheet_of(plan)), plan)


class TestRefused(ReadCase):
    def each_sheet(self, many=100):
        for plan in PLANS[:many]:
            yield plan, sheet_of(plan)

    def test_no_texts_and_one(self):
        for lines in ([], [""], ["bars 2"], ["bars 2", ""], ["# a"], ["|"], [" "], ["", ""], ["bars 2", "# a"], ["0|"], ["x"]):
            self.assert_refused(lines)
        for plan, sheet in self.each_sheet():
            for many in range(len(sheet)):
                self.assert_refused_or_its_sheet(sheet[:many])
                self.assert_refused([sheet[many]])

    def test_no_level_or_too_few(self):
        for kind in KINDS:
            for lines in (["", "# a"], ["x", "# a"], ["0|", "", "# a"], ["1|#", "0|-", "", "# a"], ["1|#", "0|-", "# a"],
                          ["# a", "+ b"], ["1|#", " |#", "0|-", "# a"], ["1|#", " |#", "0|-", ""], ["|", "|", "|", "", "# a"],
                          [" |#", " |#", " |-", "", "# a"], ["1|#", "1|#", "1|-", "", "# a"], ["1|", " |", "0|", "", "# a"],
                          ["0|#", " |#", "0|-", "", "# a"], ["0|#", " |#", "1|-", "", "# a"], ["2|#", " |#", "0|", "", "# a"]):
                self.assert_refused([kind + " 1", *lines])

    def test_the_first_texts_alone(self):
        for many in range(len(BARS)):
            self.assert_refused(BARS[:many])

    def test_a_blank_at_an_end(self):
        for plan, sheet in self.each_sheet():
            for at in range(len(sheet)):
                self.assert_refused(with_line(sheet, at, sheet[at] + " "))
                self.assert_refused(with_line(sheet, at, sheet[at] + "   "))

    def test_a_blank_ahead(self):
        for plan, sheet in self.each_sheet():
            for at in range(len(sheet)):
                self.assert_refused(with_line(sheet, at, " " + sheet[at]))

    def test_a_sign_that_stands_in_none(self):
        for plan, sheet in self.each_sheet():
            for at, line in enumerate(sheet):
                for sign in "~@A":
                    self.assert_refused(with_line(sheet, at, line + sign))
                    self.assert_refused(with_line(sheet, at, sign + line))
                    self.assert_refused(with_line(sheet, at, with_sign(line, len(line) // 2, sign)))

    def test_a_line_feed_within(self):
        for plan, sheet in self.each_sheet():
            for at, line in enumerate(sheet):
                for place in (0, 1, len(line) // 2, len(line)):
                    self.assert_refused(with_line(sheet, at, line[:place] + "\n" + line[place:]))
            self.assert_refused(["\n".join(sheet)])

    def test_a_text_more(self):
        for more in ("", " ", "x", "# a", "o figs", "+ pears", "x plums", "|", "  |", "bars 2"):
            for at in range(len(BARS) + 1):
                lines = BARS[:at] + [more] + BARS[at:]
                self.assert_refused(lines)
        for plan, sheet in self.each_sheet():
            for at in range(len(sheet) + 1):
                for more in ("", "x", "|", "# q"):
                    self.assert_refused_or_its_sheet(sheet[:at] + [more] + sheet[at:])

    def test_a_text_twice_left_out_or_exchanged_with_the_next(self):
        for at in range(len(BARS)):
            self.assert_refused(BARS[:at + 1] + BARS[at:])
            self.assert_refused(BARS[:at] + BARS[at + 1:])
            exchanged = BARS[:at] + BARS[at:at + 2][::-1] + BARS[at + 2:]
            if exchanged != BARS:
                self.assert_refused(exchanged)
        for plan, sheet in self.each_sheet():
            for at in range(len(sheet)):
                self.assert_refused_or_its_sheet(sheet[:at + 1] + sheet[at:])
                self.assert_refused_or_its_sheet(sheet[:at] + sheet[at + 1:])
                self.assert_refused_or_its_sheet(sheet[:at] + sheet[at:at + 2][::-1] + sheet[at + 2:])

    def test_the_first_or_the_names_left_out(self):
        for plan, sheet in self.each_sheet():
            self.assert_refused(sheet[1:])
            at = plan[2] + 2
            self.assert_refused(sheet[:at] + sheet[at + 1:])
            self.assert_refused(sheet[:at] + [sheet[at]] + sheet[at:])
            self.assert_refused(sheet[::-1])

    def test_another_kind(self):
        for kind in ("stacks", "shares", "lines", "bar", "Bars", "", "bars bars", "pies", " bars"):
            self.assert_refused(with_line(BARS, 0, kind + " 2"))
        for plan, sheet in self.each_sheet():
            for kind in KINDS:
                read = self.assert_refused_or_its_sheet(with_line(sheet, 0, f"{kind} {plan[1]}"))
                self.assertTrue(read or kind != plan[0])
            for head in ("pies 1", "bars", "", " ", "lines", f"{plan[1]}", f"{plan[1]} {plan[0]}", f"{plan[0]}{plan[1]}"):
                self.assert_refused(with_line(sheet, 0, head))

    def test_another_width(self):
        for width in ("0", "1", "3", "4", "5", "6", "7", "-1", "-2", "02", "2.0", "2.5", "", "x", "22", "+2", "2 2", "2 ", " 2",
                      "1" * 16, "1" * 5000, "999999999999999", "1/2", "-0"):
            self.assert_refused(with_line(BARS, 0, "bars " + width))
        for plan, sheet in self.each_sheet():
            for width in range(-2, 9):
                read = self.assert_refused_or_its_sheet(with_line(sheet, 0, f"{plan[0]} {width}"))
                self.assertTrue(read or width != plan[1])
                self.assertFalse(read and width not in range(1, 7))

    def test_the_legend_with_another_sign(self):
        for plan, sheet in self.each_sheet(28):
            for at in range(len(plan[SERIES])):
                place = len(sheet) - len(plan[SERIES]) + at
                for sign in SIGNS:
                    if sign != "#+ox"[at]:
                        self.assert_refused(with_line(sheet, place, with_sign(sheet[place], 0, sign)))
                for line in ("#+ox"[at], "#+ox"[at] + " ", "#+ox"[at] + "name", "#+ox"[at] + "  name", "name", ""):
                    self.assert_refused(with_line(sheet, place, line))

    def test_the_legend_with_another_name(self):
        for plan, sheet in self.each_sheet():
            for at in range(len(plan[SERIES])):
                place = len(sheet) - len(plan[SERIES]) + at
                for name in ("Apples", "applesX", "elevensigns", "a b", "a1", "-", "a.", "a ", "", "abcdefghijk"):
                    self.assert_refused(with_line(sheet, place, "#+ox"[at] + " " + name))
                if at > 0:
                    self.assert_refused(with_line(sheet, place, "#+ox"[at] + " " + plan[SERIES][at - 1]))
                for name in ("newname", "abcdefghix"):
                    lines = with_line(sheet, place, "#+ox"[at] + " " + name)
                    self.assertEqual(read_sheet(lines)[SERIES][at], name)

    def test_five_series(self):
        for plan, sheet in self.each_sheet(200):
            extra = ["# q", "+ w", "o e", "x r", "y t"]
            self.assert_refused(sheet[:plan[2] + 3] + extra)
            self.assert_refused(sheet[:plan[2] + 3])

    def test_the_axis_left_out(self):
        for plan, sheet in self.each_sheet():
            for at in range(1, plan[2] + 2):
                place = sheet[at].index("|")
                self.assert_refused(with_line(sheet, at, sheet[at][:place] + sheet[at][place + 1:]))
                self.assert_refused(with_line(sheet, at, sheet[at][:place] + " " + sheet[at][place + 1:]))
                self.assert_refused(with_line(sheet, at, sheet[at][:place] + "|" + sheet[at][place:]))
                self.assert_refused(with_line(sheet, at, ""))

    def test_a_mark_otherwise(self):
        long = 2
        for at in range(1, 14):
            for label in [*map(str, range(-9, 22)), "", " ", "x", "-", "-0", "0.5", "1.", "00", "05", "--5"]:
                lines = with_line(BARS, at, label.rjust(long) + BARS[at][long:])
                if lines != BARS:
                    self.assert_refused(lines)
        for plan, sheet in self.each_sheet():
            for at in range(1, plan[2] + 2):
                place = sheet[at].index("|")
                for label in ("0", "1", "-1", "5", "100", "0.5", ""):
                    lines = with_line(sheet, at, label.rjust(place)[:place] + sheet[at][place:])
                    read = self.assert_refused_or_its_sheet(lines)
                    # Of two marks the other one may have another step; of three the one in the middle may lack.
                    if len(plan[MARKS]) > 2 and label != "":
                        self.assertEqual(read, lines == sheet)

    def test_marks_moved_or_further_to_the_right(self):
        for plan, sheet in self.each_sheet():
            wider = [" " + line for line in sheet[1:plan[2] + 3]]
            self.assert_refused(sheet[:1] + wider + sheet[plan[2] + 3:])
            self.assert_refused(sheet[:1] + sheet[plan[2] + 1:0:-1] + sheet[plan[2] + 2:])

    def test_a_sign_of_the_picture_otherwise(self):
        for plan, sheet in self.each_sheet():
            long = sheet[1].index("|") + 1
            columns = max(len(line) for line in sheet[1:plan[2] + 2])
            gaps = [start - 1 for start in starts_of(plan[0], plan[1], len(plan[LEVELS]), len(plan[SERIES]))[1:]]
            chance = random.Random(len(sheet))
            for turn in range(40):
                at, place = chance.randint(1, plan[2] + 1), chance.randint(long, columns)
                sign = chance.choice("#+ox|- ")
                line = with_sign(sheet[at].ljust(place), place, sign).rstrip(" ")
                read = self.assert_refused_or_its_sheet(with_line(sheet, at, line))
                if plan[1] > 1 or place - long in gaps:
                    self.assertEqual(read, line == sheet[at])

    def test_each_sign_of_a_picture_otherwise(self):
        for at in range(1, 14):
            for place in range(3, 19):
                for sign in SIGNS:
                    line = with_sign(BARS[at].ljust(place), place, sign).rstrip(" ")
                    if line != BARS[at]:
                        self.assert_refused(with_line(BARS, at, line))

    def test_one_sign_of_a_sheet_otherwise(self):
        chance = random.Random(22)
        many = {True: 0, False: 0}
        for plan, sheet in self.each_sheet(300):
            for turn in range(60):
                at = chance.randrange(len(sheet))
                place = chance.randint(0, len(sheet[at]))
                sign = chance.choice(["", chance.choice(SIGNS), chance.choice("#+ox|- 0125.a")])
                line = chance.choice((with_sign(sheet[at], place, sign), sheet[at][:place] + sign + sheet[at][place:]))
                many[self.assert_refused_or_its_sheet(with_line(sheet, at, line))] += 1
        self.assertGreater(min(many.values()), 500)

    def test_names_otherwise(self):
        for line in ("", "   may june july", "   may", "  may  june july", "    may  june july", "   mayyy june july",
                     "   may  june  july", "   may  May july", "   may  june may", "may", "   may  june julyjulyju"):
            lines = with_line(BARS, 14, line)
            if line in ("", "   may", "   may  june julyjulyju"):
                self.assertEqual(sheet_of(read_sheet(lines)), lines)
            else:
                self.assert_refused(lines)
        self.assertEqual(read_sheet(with_line(BARS, 14, "        june"))[NAMES], [None, "june", None])
        self.assertEqual(read_sheet(with_line(BARS, 14, "   maymaymay july"))[NAMES], ["maymaymay", None, "july"])
        self.assert_refused(with_line(BARS, 14, "   maymaymayx july"))
        self.assert_refused(with_line(BARS, 14, "   maymaymayxjuly"))

    def test_great_lists_of_long_texts(self):
        self.assert_refused(["bars 1"] * 400)
        self.assert_refused(["|" * 20000] * 400)
        self.assert_refused(["bars 1"] + ["0|" + "-" * 19000] * 41 + ["a" * 20000] + ["# a"])
        self.assert_refused(["bars 1"] + ["0|" + "# " * 9000 + "#"] * 3 + ["  " + "a " * 9000 + "a", "# a"])
        self.assert_refused(["stacks 1"] + ["1|#"] * 398 + ["", "# a"])
        self.assert_refused(["lines 6"] + [" " * 19999 + "|"] * 30 + ["# a"] * 4)
        self.assert_refused(["lines 6"] + ["1" * 19999 + "|"] * 30 + ["", "# a"])

    def test_things_that_are_no_texts(self):
        self.assert_refused([1, 2, 3])
        self.assert_refused([None])
        self.assert_refused(BARS[:-1] + [None])


class TestStretchesOf(unittest.TestCase):
    def test_by_hand(self):
        plan = ("bars", 1, 4, [(0, 1), (5, 1), (10, 1)], [[0, 4], [1, 2]], ["a", "b"], ["s", "t"])
        told = [[((-5, 4), (5, 4)), ((35, 4), (45, 4))], [((5, 4), (15, 4)), ((15, 4), (25, 4))]]
        self.assertEqual(stretches_of(plan), told)
        self.assertEqual(stretches_of(("lines", *plan[1:])), told)
        self.assertEqual(stretches_of(("stacks", *plan[1:])), told)
        plan = ("shares", 1, 4, [(0, 1), (50, 1), (100, 1)], [[0, 4], [1, 4], [0, 0], [4, 4]], [None] * 4, ["s", "t"])
        self.assertEqual(stretches_of(plan), [
            [((-25, 1), (25, 1)), ((75, 1), (125, 1))], [((0, 1), (50, 1)), ((50, 1), (100, 1))],
            [((-25, 1), (25, 1)), ((-25, 1), (25, 1))], [((75, 1), (125, 1)), ((-25, 1), (25, 1))],
        ])
        plan = ("shares", 1, 3, [(0, 1), (100, 1)], [[1, 2, 3]], [None], ["s", "t", "u"])
        self.assertEqual(stretches_of(plan), [[((0, 1), (200, 3))] * 3])

    def test_of_each_plan(self):
        for plan in PLANS:
            kind, width, rows, marks, levels, names, series = plan
            low, high = Fraction(*marks[0]), Fraction(*marks[-1])
            told = []
            for band in levels:
                if kind == "shares":
                    parts = [after - ahead for ahead, after in zip([0] + band, band)]
                    told.append([(Fraction(100 * (part - 1), rows), Fraction(100 * (part + 1), rows)) for part in parts])
                else:
                    half = Fraction(1, 2)
                    told.append([tuple(low + at * (high - low) / rows for at in (level - half, level + half)) for level in band])
            self.assertEqual(stretches_of(plan), [[(pair(start), pair(end)) for start, end in band] for band in told])

    def test_the_kinds_of_things(self):
        for plan in PLANS:
            told = stretches_of(plan)
            self.assertIs(type(told), list)
            self.assertEqual({type(band) for band in told}, {list})
            for stretch in itertools.chain(*told):
                self.assertEqual((type(stretch), [type(one) for one in stretch]), (tuple, [tuple, tuple]))

    def test_what_is_drawn_lies_there(self):
        chance = random.Random(23)
        for kind, made_by in KINDS.items():
            for turn in range(60):
                low = -999 if kind in ("bars", "lines") else 0
                series = ["s", "t", "u", "v"][:chance.randint(1, 4)]
                by = Fraction(1, chance.choice((1, 10, 1000, 10 ** 6)))
                worths = [[chance.choice((0, 1, chance.randint(low, 999))) * by for place in series] for row in range(5)]
                rows = [("abcde"[at], [pair(worth) for worth in row]) for at, row in enumerate(worths)]
                plan = plan_of(made_by(table_of(series, rows), chance.randint(2, 40), 1))
                for row, band in zip(worths, stretches_of(read_sheet(sheet_of(plan)))):
                    self.assert_within(kind, row, [[Fraction(*one) for one in stretch] for stretch in band])

    def assert_within(self, kind, row, band):
        if kind == "shares":
            for worth, (start, end) in zip(row, band):
                if sum(row):
                    self.assertLess(start, 100 * worth / sum(row))
                    self.assertLess(100 * worth / sum(row), end)
            return
        for worth, (start, end) in zip(itertools.accumulate(row) if kind == "stacks" else row, band):
            self.assertLessEqual(start, worth)
            self.assertLess(worth, end)

    def test_the_plan_stays_and_the_lists_are_new(self):
        for plan in PLANS[:80]:
            kept = copy.deepcopy(plan)
            told = stretches_of(plan)
            again = copy.deepcopy(told)
            told[0][0] = "x"
            told[-1].append("y")
            told.append([])
            self.assertEqual((stretches_of(plan), plan), (again, kept))


if __name__ == "__main__":
    unittest.main()
