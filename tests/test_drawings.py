"""Drawings: [12], [13], and [2] and [3] as far as they speak of them."""

import inspect
import itertools
import math
import random
import unittest
from fractions import Fraction

from chartscribe.dealing import dealt
from chartscribe.drawings import Bars, Drawing, Lines, Shares, Stacks
from chartscribe.errors import Below, ChartError, NoSize
from chartscribe.marks import marks_of
from chartscribe.scales import Scale
from chartscribe.tables import table_of

KINDS = {"bars": Bars, "stacks": Stacks, "shares": Shares, "lines": Lines}
METHODS = ("kind", "marks", "scale", "levels", "base")
SERIES = ["apples", "pears", "figs", "plums"]
NAMES = ["january", "february", "march", "april", "may", "june", "july", "august", "september", "october", "november",
         "december"]
ROWS = (2, 3, 4, 5, 12, 39, 40)
VERY_GREAT = 10 ** 30 - 1


def pair(worth):
    return (worth.numerator, worth.denominator)


def worth_of(one):
    return Fraction(*one)


def table(text):
    """The table of rows parted by slashes, numbers by blanks; names go by the order."""
    rows = [[pair(Fraction(word)) for word in row.split()] for row in text.split("/")]
    return table_of(SERIES[:len(rows[0])], [(NAMES[at], numbers) for at, numbers in enumerate(rows)])


def table_by(series, rows):
    return table_of(list(series), [(name, list(numbers)) for name, numbers in rows])


# From 0 on: for all four kinds.
PLAIN = [table(text) for text in [
    "0", "1", "5/5/5", "0/0/0", "0 0/0 0", "3 4.5/17 0", "1 2 3 4/4 3 2 1/0 0 0 0/9 0 0 0", "7 7 7/7 7 7", "0/1", "1/0",
    "0.000001", "999999999999.999999", "999999999999.999999 999999999999.999999/0.000001 0", "0.1 0.2/0.3 0.4",
    "1/2/3/4/5/6/7/8/9/10/11/12", "0 0 1/0 1 0/1 0 0", "49 49 2/1 1 1/0 0 0", "12.25/12.5/12.75/13", "99/100/101",
    "123456.789 1 0.5 0/0 0 0 0.000001", "10/20/30", "2 0 2/0 2 0", "1 1 1 1/1 1 1 1",
]]
# With numbers below 0: for bars and lines.
SIGNED = [table(text) for text in [
    "-1", "-5/-5/-5", "-1 1", "-3 4.5/17 -8.25", "-7/0", "0/-7", "-999999999999.999999 999999999999.999999", "-0.000001",
    "-9/-8.5/-3", "5 0 -5/-5 0 5", "-1000000/1", "-1 -2 -3 -4/4 3 2 1", "-0.1 0.2/0.3 -0.4", "-1/1000/-20/5/0/7/-3",
    "1/-1/1/-1/1/-1/1/-1/1/-1/1/-1", "-99/-100/-101", "-20/19", "-19/20", "-12.25 -12.5/-12.75 -13",
]]


def made_tables(signed):
    """Tables of every size, with numbers of many forms."""
    chance = random.Random(12 + signed)
    for turn in range(60):
        bottom = chance.choice((1, 1, 10, 100, 10 ** 6))
        most = chance.choice((1, 9, 50, 1000, 10 ** 9, 10 ** 12)) * bottom - 1
        series = SERIES[:chance.randint(1, 4)]
        rows = []
        for name in NAMES[:chance.randint(1, 12)]:
            tops = [chance.choice((0, 1)) * chance.randint(-most if signed else 0, most) for other in series]
            rows.append((name, [pair(Fraction(top, bottom)) for top in tops]))
        yield table_of(series, rows)


PLAIN += list(made_tables(False))
SIGNED += list(made_tables(True))


def drawings(kinds=("bars", "stacks", "shares", "lines"), rows=ROWS):
    """Drawings of these kinds, of all tables that they take."""
    for kind in kinds:
        for made in PLAIN if kind in ("stacks", "shares") else PLAIN + SIGNED:
            for many in rows:
                yield KINDS[kind](made, many, 1 + many % 6)


def worths_of(made):
    """The numbers of each row of a drawing's table."""
    return [[worth_of(one) for one in numbers] for name, numbers in made.table[1]]


def level_by_hand(made, worth):
    marks = [worth_of(mark) for mark in made.marks()]
    return math.floor((worth - marks[0]) * made.rows / (marks[-1] - marks[0]) + Fraction(1, 2))


class TestClasses(unittest.TestCase):
    def test_each_is_a_drawing_and_none_of_the_others(self):
        for kind, made_by in KINDS.items():
            made = made_by(PLAIN[0], 5, 3)
            self.assertIsInstance(made, Drawing)
            self.assertEqual(made_by.__bases__, (Drawing,))
            for other in KINDS.values():
                self.assertEqual(isinstance(made, other), other is made_by)

    def test_the_methods_are_its_own(self):
        for made_by in (Drawing, *KINDS.values()):
            for name in METHODS:
                self.assertTrue(inspect.isfunction(vars(made_by).get(name)), (made_by, name))

    def test_fields(self):
        for made_by in KINDS.values():
            for rows, width in itertools.product((2, 3, 40), range(1, 7)):
                for made in (made_by(PLAIN[5], rows, width), made_by(width=width, rows=rows, table=PLAIN[5])):
                    self.assertEqual(vars(made), {"table": PLAIN[5], "rows": rows, "width": width})

    def test_asking_changes_no_field(self):
        for made in drawings():
            kept = dict(vars(made))
            made.kind(), made.marks(), made.scale(), made.levels(), made.base()
            self.assertEqual(vars(made), kept)

    def test_kind(self):
        for kind, made_by in KINDS.items():
            self.assertEqual(made_by(PLAIN[5], 5, 3).kind(), kind)

    def test_the_table_handed_in_stays(self):
        for made in PLAIN:
            kept = table_by(*made)
            for made_by in KINDS.values():
                drawn = made_by(made, 7, 2)
                drawn.marks(), drawn.levels(), drawn.base()
            self.assertEqual(made, kept)


class TestRefused(unittest.TestCase):
    NO_ROWS = (1, 41, 0, -1, -2, -40, 42, 100, VERY_GREAT, -VERY_GREAT)
    NO_WIDTHS = (0, 7, -1, -6, 8, 100, VERY_GREAT, -VERY_GREAT)

    def assert_size(self, made_by, handed, rows, width, size):
        with self.assertRaises(NoSize) as caught:
            made_by(handed, rows, width)
        self.assertIs(type(caught.exception), NoSize)
        self.assertEqual(caught.exception.size, size)

    def assert_below(self, made_by, handed, row, series):
        with self.assertRaises(Below) as caught:
            made_by(handed, 5, 3)
        self.assertIs(type(caught.exception), Below)
        self.assertEqual((caught.exception.row, caught.exception.series), (row, series))

    def test_rows(self):
        for made_by, rows in itertools.product(KINDS.values(), self.NO_ROWS):
            for width in range(1, 7):
                self.assert_size(made_by, PLAIN[0], rows, width, rows)

    def test_width(self):
        for made_by, width in itertools.product(KINDS.values(), self.NO_WIDTHS):
            for rows in (2, 40):
                self.assert_size(made_by, PLAIN[0], rows, width, width)

    def test_just_within(self):
        for made_by, rows, width in itertools.product(KINDS.values(), range(2, 41), range(1, 7)):
            self.assertEqual(made_by(PLAIN[0], rows, width).rows, rows)

    def test_rows_go_ahead_of_the_width(self):
        for made_by, rows, width in itertools.product(KINDS.values(), self.NO_ROWS, self.NO_WIDTHS):
            if rows != width:
                self.assert_size(made_by, PLAIN[0], rows, width, rows)

    def test_sizes_go_ahead_of_a_number_below_0(self):
        for made_by in KINDS.values():
            for rows in self.NO_ROWS:
                self.assert_size(made_by, table("-1 -1/-1 -1"), rows, 3, rows)
                self.assert_size(made_by, table("-1 -1/-1 -1"), rows, 99, rows)
            for width in self.NO_WIDTHS:
                self.assert_size(made_by, table("-1 -1/-1 -1"), 5, width, width)

    def test_a_number_below_0(self):
        for text, row, series in [
            ("-1", "january", "apples"), ("-1 0/0 0", "january", "apples"), ("0 -1/0 0", "january", "pears"),
            ("0 0/-1 0", "february", "apples"), ("0 0/0 -0.000001", "february", "pears"),
            ("1 2 3 4/1 2 3 4/1 2 -3 4", "march", "figs"), ("0/0/0/0/0/0/0/0/0/0/0/-5", "december", "apples"),
            ("0 0 0 -999999999999.999999", "january", "plums"),
            # several of them: the first, row by row, in a row by the series
            ("-1 -1/-1 -1", "january", "apples"), ("0 -1/-1 0", "january", "pears"), ("0 0/0 -1/-1 0", "february", "pears"),
            ("5 -1 -2", "january", "pears"), ("0 0/-9 -1", "february", "apples"), ("100 -1/0 0", "january", "pears"),
        ]:
            with self.subTest(text):
                self.assert_below(Stacks, table(text), row, series)
                self.assert_below(Shares, table(text), row, series)

    def test_each_place(self):
        for at, place in itertools.product(range(12), range(4)):
            rows = [[0] * 4 for name in NAMES]
            rows[at][place] = -1
            handed = table("/".join([" ".join(map(str, row)) for row in rows]))
            self.assert_below(Stacks, handed, NAMES[at], SERIES[place])
            self.assert_below(Shares, handed, NAMES[at], SERIES[place])

    def test_bars_and_lines_take_it(self):
        for made in SIGNED:
            self.assertEqual((Bars(made, 5, 3).table, Lines(made, 5, 3).table), (made, made))

    def test_no_refusal_stands_under_another_one(self):
        for kind in (NoSize, Below):
            self.assertEqual(kind.__bases__, (ChartError,))


class TestMarks(unittest.TestCase):
    def test_by_hand(self):
        for made, told in [
            (Bars(table("3 4.5/17 0"), 8, 1), [0, 5, 10, 15, 20]), (Bars(table("3 4.5/17 0"), 2, 1), [0, 10, 20]),
            (Bars(table("5/5"), 2, 1), [0, 5]), (Bars(table("5/5"), 8, 1), [0, 1, 2, 3, 4, 5]),
            (Bars(table("-5/-5"), 2, 1), [-5, 0]), (Bars(table("0/0"), 2, 1), ["0", "0.5", "1"]),
            (Bars(table("-3/20"), 4, 1), [-10, 0, 10, 20]), (Bars(table("-3/20"), 2, 1), [-20, 0, 20]),
            (Stacks(table("3 4.5/17 0"), 8, 1), [0, 5, 10, 15, 20]), (Stacks(table("0 0/0 0"), 2, 1), ["0", "0.5", "1"]),
            (Stacks(table("9 9/10 5"), 2, 1), [0, 10, 20]), (Stacks(table("9 9 9/10 5 0"), 2, 1), [0, 20, 40]),
            (Shares(table("3 4.5/17 0"), 2, 1), [0, 50, 100]), (Shares(table("3 4.5/17 0"), 7, 1), [0, 50, 100]),
            (Shares(table("0 0/0 0"), 8, 1), [0, 20, 40, 60, 80, 100]), (Shares(table("1"), 40, 1), range(0, 101, 5)),
            (Lines(table("12.25/13"), 2, 1), ["12", "12.5", "13"]), (Lines(table("5/5"), 2, 1), [5, 10]),
            (Lines(table("-5/-5"), 2, 1), [-5, 0]), (Lines(table("0/0"), 2, 1), ["0", "0.5", "1"]),
            (Lines(table("99/100/101"), 2, 1), [99, 100, 101]), (Lines(table("99/100/102"), 4, 1), [99, 100, 101, 102]),
            (Lines(table("99/100/102"), 2, 1), [98, 100, 102]), (Lines(table("-19/20"), 12, 1), range(-20, 21, 10)),
        ]:
            with self.subTest(kind=made.kind(), table=made.table, rows=made.rows):
                self.assertEqual(made.marks(), [pair(Fraction(mark)) for mark in told])

    def bounds(self, made):
        """The low and the high of which [12] speaks."""
        every = [worth for row in worths_of(made) for worth in row]
        if made.kind() == "bars":
            return min(0, *every), max(0, *every)
        if made.kind() == "stacks":
            return 0, max(sum(row) for row in worths_of(made))
        if made.kind() == "shares":
            return 0, 100
        return min(every), max(every)

    def test_those_of_the_low_and_the_high(self):
        for made in drawings():
            low, high = self.bounds(made)
            told = made.marks()
            self.assertEqual(told, marks_of(pair(Fraction(low)), pair(Fraction(high)), made.rows // 2 + 2))
            self.assertIs(type(told), list)
            self.assertEqual({type(mark) for mark in told}, {tuple})

    def test_how_many(self):
        for made in drawings():
            self.assertIn(len(made.marks()), range(2, made.rows // 2 + 3))

    def test_all_numbers_lie_between(self):
        for made in drawings():
            low, high = self.bounds(made)
            marks = made.marks()
            self.assertLessEqual(worth_of(marks[0]), low)
            self.assertGreaterEqual(worth_of(marks[-1]), high)

    def test_bars_have_0_stacks_begin_with_it_shares_go_to_100(self):
        for made in drawings(["bars"]):
            self.assertIn((0, 1), made.marks())
        for made in drawings(["stacks", "shares"]):
            self.assertEqual(made.marks()[0], (0, 1))
        for made in drawings(["shares"], range(2, 41)):
            self.assertEqual((made.marks()[0], made.marks()[-1]), ((0, 1), (100, 1)))

    def test_shares_have_the_same_whatever_the_numbers(self):
        for rows in range(2, 41):
            every = [Shares(made, rows, 1).marks() for made in PLAIN]
            self.assertEqual(every, [every[0]] * len(every))


class TestScale(unittest.TestCase):
    def test_from_the_first_mark_to_the_last(self):
        for made in drawings():
            told = made.scale()
            self.assertIs(type(told), Scale)
            marks = made.marks()
            self.assertEqual((told.low, told.high, told.rows), (marks[0], marks[-1], made.rows))

    def test_changed_it_changes_nothing(self):
        made = Bars(PLAIN[5], 8, 1)
        kept = made.levels()
        told = made.scale()
        told.low, told.high, told.rows = (7, 1), (8, 1), 2
        self.assertEqual((made.levels(), made.scale().rows), (kept, 8))


class TestLevels(unittest.TestCase):
    def test_by_hand(self):
        for made, told in [
            (Bars(table("3 4.5/17 0"), 8, 1), [[1, 2], [7, 0]]), (Bars(table("-3/20"), 4, 1), [[1], [4]]),
            (Bars(table("-5/0/5"), 4, 1), [[0], [2], [4]]), (Bars(table("-5/-1"), 2, 1), [[0], [2]]),
            (Bars(table("0/0"), 2, 1), [[0], [0]]), (Stacks(table("3 4.5/17 0"), 8, 1), [[1, 3], [7, 7]]),
            (Stacks(table("1 1 1/3 0 0/0 0 0"), 3, 1), [[1, 2, 2], [2, 2, 2], [0, 0, 0]]),
            (Stacks(table("0 0/0 0"), 3, 1), [[0, 0], [0, 0]]), (Stacks(table("5 5 5 5"), 4, 1), [[1, 2, 3, 4]]),
            (Shares(table("1 1 1/3 0 0/0 0 0"), 4, 1), [[2, 3, 4], [4, 4, 4], [0, 0, 0]]),
            (Shares(table("49 49 2/0 1 0"), 10, 1), [[5, 10, 10], [0, 10, 10]]), (Shares(table("7/0"), 2, 1), [[2], [0]]),
            (Lines(table("12.25/12.5/12.75/13"), 2, 1), [[1], [1], [2], [2]]), (Lines(table("5/5"), 2, 1), [[0], [0]]),
            (Lines(table("-5/-5"), 2, 1), [[0], [0]]), (Lines(table("99 101/100 100"), 4, 1), [[0, 4], [2, 2]]),
        ]:
            with self.subTest(kind=made.kind(), table=made.table, rows=made.rows):
                self.assertEqual(made.levels(), told)

    def test_lists_of_lists_of_whole_numbers_from_0_to_rows(self):
        for made in drawings():
            told = made.levels()
            self.assertIs(type(told), list)
            self.assertEqual(len(told), len(made.table[1]))
            for row in told:
                self.assertIs(type(row), list)
                self.assertEqual([type(level) for level in row], [int] * len(made.table[0]))
                self.assertTrue(all(0 <= level <= made.rows for level in row))

    def test_bars_and_lines_stand_at_the_nearest_level(self):
        for made in drawings(["bars", "lines"]):
            told = [[level_by_hand(made, worth) for worth in row] for row in worths_of(made)]
            self.assertEqual(made.levels(), told)
            scale = made.scale()
            for row, numbers in zip(made.levels(), worths_of(made)):
                for level, worth in zip(row, numbers):
                    away = abs(worth_of(scale.number(level)) - worth)
                    for other in range(made.rows + 1):
                        self.assertLessEqual(away, abs(worth_of(scale.number(other)) - worth))

    def test_stacked_pieces_end_at_the_levels_of_their_sums(self):
        for made in drawings(["stacks"]):
            sums = [list(itertools.accumulate(row)) for row in worths_of(made)]
            self.assertEqual(made.levels(), [[level_by_hand(made, worth) for worth in row] for row in sums])
            for row in made.levels():
                self.assertEqual(row, sorted(row))

    def test_shares_are_the_sums_of_what_is_dealt(self):
        for made in drawings(["shares"]):
            for row, (name, numbers), worths in zip(made.levels(), made.table[1], worths_of(made)):
                self.assertEqual(row, list(itertools.accumulate(dealt(list(numbers), made.rows))))
                self.assertEqual(row, sorted(row))
                self.assertEqual(row[-1], made.rows if any(worths) else 0)
                for part, worth in zip([after - ahead for ahead, after in zip([0] + row, row)], worths):
                    if any(worths):
                        self.assertLess(abs(part - made.rows * worth / sum(worths)), 1)

    def test_a_greater_one_never_stands_lower(self):
        for made in drawings(["bars", "lines"]):
            every = [(worth, level) for row, levels in zip(worths_of(made), made.levels()) for worth, level in zip(row, levels)]
            levels = [level for worth, level in sorted(every)]
            self.assertEqual(levels, sorted(levels))
        for made in drawings(["stacks"]):
            every = [(worth, level) for row, levels in zip(worths_of(made), made.levels())
                     for worth, level in zip(itertools.accumulate(row), levels)]
            levels = [level for worth, level in sorted(every)]
            self.assertEqual(levels, sorted(levels))

    def test_rows_in_another_order(self):
        for made in drawings(rows=(3, 12)):
            series, rows = made.table
            at = list(range(len(rows)))
            for order in (at[::-1], at[1:] + at[:1], at[::2] + at[1::2]):
                other = KINDS[made.kind()](table_by(series, [rows[place] for place in order]), made.rows, made.width)
                levels = made.levels()
                self.assertEqual(other.levels(), [levels[place] for place in order])
                self.assertEqual((other.marks(), other.base()), (made.marks(), made.base()))

    def test_rows_of_the_same_numbers(self):
        for made in drawings(rows=(7,)):
            for (one, numbers), level in zip(made.table[1], made.levels()):
                for (other, others), its in zip(made.table[1], made.levels()):
                    if numbers == others:
                        self.assertEqual(level, its)

    def test_other_names_have_the_same_levels(self):
        for made in drawings(rows=(7,)):
            series, rows = made.table
            renamed = table_by(["x", "y", "z", "w"][:len(series)], [("r" + name[:9], numbers) for name, numbers in rows])
            other = KINDS[made.kind()](renamed, made.rows, made.width)
            self.assertEqual((other.levels(), other.marks()), (made.levels(), made.marks()))

    def test_another_width_has_the_same_levels(self):
        for kind, width in itertools.product(KINDS, range(1, 7)):
            one, other = KINDS[kind](PLAIN[6], 9, 1), KINDS[kind](PLAIN[6], 9, width)
            self.assertEqual((other.levels(), other.marks(), other.base()), (one.levels(), one.marks(), one.base()))

    def test_numbers_ten_times_as_great(self):
        for made in drawings():
            series, rows = made.table
            tenth = [(name, [pair(worth_of(one) / 10) for one in numbers]) for name, numbers in rows]
            every = [one for name, numbers in tenth for one in numbers]
            if not any(top for top, bottom in every) or any(10 ** 6 % bottom for top, bottom in every):
                continue
            less = KINDS[made.kind()](table_by(series, tenth), made.rows, made.width)
            self.assertEqual((less.levels(), less.base()), (made.levels(), made.base()))
            by = 1 if made.kind() == "shares" else 10
            self.assertEqual([pair(worth_of(mark) * by) for mark in less.marks()], made.marks())


class TestBase(unittest.TestCase):
    def test_by_hand(self):
        for text, rows, told in [
            ("1/5", 4, 0), ("0", 4, 0), ("-1/-5", 4, 4), ("-5/5", 4, 2), ("-3/20", 4, 1), ("-20/3", 4, 3), ("-5/0", 7, 7),
            ("-1/3", 3, 2), ("-3/1", 3, 2), ("-5/5", 3, 2), ("-5/5", 5, 3), ("-999999999999/1", 40, 38),
        ]:
            with self.subTest(text=text, rows=rows):
                self.assertEqual(Bars(table(text), rows, 1).base(), told)

    def test_of_bars_the_level_of_0(self):
        where = set()
        for made in drawings(["bars"]):
            self.assertIs(type(made.base()), int)
            self.assertEqual(made.base(), level_by_hand(made, 0))
            at = made.marks().index((0, 1))
            where.add("first" if at == 0 else "last" if at == len(made.marks()) - 1 else "within")
        self.assertEqual(where, {"first", "within", "last"})

    def test_of_stacks_and_shares_0(self):
        for made in drawings(["stacks", "shares"]):
            self.assertIs(type(made.base()), int)
            self.assertEqual(made.base(), 0)

    def test_of_lines_none(self):
        for made in drawings(["lines"]):
            self.assertIsNone(made.base())


class TestOnesOwn(unittest.TestCase):
    def test_the_told_lists_are_new_each_time(self):
        for made in drawings(rows=(2, 9)):
            marks, levels = made.marks(), made.levels()
            kept = (list(marks), [list(row) for row in levels])
            marks.append((7, 1))
            marks[0] = (99, 1)
            levels[0][0] = 99
            levels[-1].append(3)
            levels.append([])
            self.assertEqual((made.marks(), made.levels()), kept)

    def test_rows_of_the_same_numbers_have_lists_of_their_own(self):
        for kind in KINDS:
            told = KINDS[kind](table("2 3/2 3/0 0/0 0"), 5, 1).levels()
            told[0][0] = told[2][0] = 99
            self.assertNotIn(99, told[1] + told[3])

    def test_a_drawing_made_and_asked_in_between_changes_nothing(self):
        made = {kind: KINDS[kind](table("3 4.5/17 0"), 8, 2) for kind in KINDS}
        told = {kind: (made[kind].marks(), made[kind].levels(), made[kind].base()) for kind in KINDS}
        kept = repr(told)
        for other in drawings(rows=(5,)):
            other.marks(), other.levels(), other.base()
        self.assertEqual(repr(told), kept)
        self.assertEqual(repr({kind: (made[kind].marks(), made[kind].levels(), made[kind].base()) for kind in KINDS}), kept)


if __name__ == "__main__":
    unittest.main()
