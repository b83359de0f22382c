"""The whole: [1] and [3], from a table's text by the desk to a sheet and back."""

import itertools
import math
import random
import unittest
from fractions import Fraction

from chartscribe.changing import changed, changes
from chartscribe.desk import Desk
from chartscribe.numbers import read_number, show_number
from chartscribe.plans import is_plan, starts_of
from chartscribe.reading import read_sheet, stretches_of
from chartscribe.sheets import sheet_of

KINDS = ("bars", "stacks", "shares", "lines")
SIDE_BY_SIDE = ("bars", "lines")
NAMES = ["may", "september", "a", "june", "x", "october", "july", "bb", "november", "c", "march", "abcdefghij"]
SERIES = ["apples", "pears", "o", "plums"]
ROUND = [lead * Fraction(10) ** power for power in range(-12, 16) for lead in (1, 2, 5)]


def worth_of(word):
    return Fraction(*read_number(word))


def word_of(worth):
    return show_number((worth.numerator, worth.denominator))


class Case:
    """A table as words, with a kind, rows and a width to draw it by."""

    def __init__(self, kind, rows, width, series, table):
        self.kind, self.rows, self.width, self.series, self.table = kind, rows, width, series, table

    def with_table(self, table):
        return Case(self.kind, self.rows, self.width, self.series, table)

    def worths(self):
        return [[worth_of(word) for word in words] for name, words in self.table]

    def drawn_numbers(self):
        """What is drawn of each row: of stacks the sums, of shares the hundredths."""
        if self.kind == "stacks":
            return [list(itertools.accumulate(row)) for row in self.worths()]
        if self.kind == "shares":
            return [[100 * worth / sum(row) if sum(row) else Fraction(0) for worth in row] for row in self.worths()]
        return self.worths()

    def desk(self):
        made = Desk()
        rows = [" ".join([name, *words]) for name, words in self.table]
        made.say("\n".join(["table t", " ".join(["series", *self.series]), *rows]))
        return made

    def say(self, deed):
        return self.desk().say(f"{deed} {self.kind} t {self.rows} {self.width}")

    def sheet(self):
        return self.say("draw").split("\n")

    def plan(self):
        return read_sheet(self.sheet())


def made_cases():
    chance = random.Random(3)
    for turn, kind in itertools.product(range(70), KINDS):
        series = SERIES[:chance.randint(1, 4)]
        names = chance.sample(NAMES, chance.choice((1, 2, 5, 12)))
        by = Fraction(1, chance.choice((1, 1, 10, 1000, 10 ** 5)))
        most = chance.choice((1, 7, 60, 10 ** 6, 10 ** 11))
        low = -most if kind in SIDE_BY_SIDE and chance.randrange(3) else 0
        table = [(name, [word_of(chance.choice((0, 1, 1)) * chance.randint(low, most) * by) for place in series]) for name in names]
        yield Case(kind, chance.choice((2, 3, 8, 12, 39, 40)), chance.randint(1, 6), series, table)
    for kind in KINDS:
        yield Case(kind, 8, 2, ["s", "t"], [("a", ["0", "0"]), ("b", ["0", "0"])])
        yield Case(kind, 2, 1, ["s"], [("a", ["7"])])
        yield Case(kind, 40, 6, ["s"], [("a", ["999999999999.999999"]), ("b", ["0.000001"])])


CASES = list(made_cases())


class TestSheetAndBack(unittest.TestCase):
    def test_the_levels_read_are_those_drawn(self):
        for case in CASES:
            answer = case.desk().say("read\n" + case.say("draw"))
            plan = case.plan()
            told = [" ".join([name or "-", *map(str, levels)]) for name, levels in zip(plan[5], plan[4])]
            self.assertEqual(answer, "\n".join(told))
            self.assertEqual(len(plan[4]), len(case.table))

    def test_the_plan_read_is_that_of_the_table(self):
        for case in CASES:
            plan = case.plan()
            self.assertTrue(is_plan(plan))
            self.assertEqual(plan[:3], (case.kind, case.width, case.rows))
            self.assertEqual(plan[6], case.series)
            for (name, words), its in zip(case.table, plan[5]):
                self.assertIn(its, (name, None))

    def test_drawn_again_the_sheet_is_the_same(self):
        for case in CASES:
            self.assertEqual(sheet_of(case.plan()), case.sheet())
            self.assertEqual(case.sheet(), case.sheet())

    def test_those_left_out_are_told(self):
        for case in CASES:
            names = [name for name, words in case.table]
            self.assertEqual(case.say("left").split(), [name for name, its in zip(names, case.plan()[5]) if its is None])

    def test_each_number_lies_in_its_stretch(self):
        for case in CASES:
            for row, worths, band in zip(case.worths(), case.drawn_numbers(), stretches_of(case.plan())):
                for worth, (start, end) in zip(worths, band):
                    start, end = Fraction(*start), Fraction(*end)
                    if case.kind != "shares":
                        self.assertLessEqual(start, worth)
                        self.assertLess(worth, end)
                    elif sum(row):
                        self.assertLess(start, worth)
                        self.assertLess(worth, end)

    def test_what_changed_from_one_sheet_to_another(self):
        sheets = [case.sheet() for case in CASES]
        for one, other in zip(sheets, sheets[1:]):
            self.assertEqual(changed(one, changes(one, other)), other)


class TestMarksAndLevels(unittest.TestCase):
    def marks_of(self, case):
        return [Fraction(*mark) for mark in case.plan()[3]]

    def bounds(self, case):
        every = [worth for row in case.drawn_numbers() for worth in row]
        if case.kind == "shares":
            return Fraction(0), Fraction(100)
        low = min(every) if case.kind == "lines" else min(0, *every)
        high = max(every) if case.kind == "lines" else max(0, *every)
        return low, (high if low != high else high + abs(high) if high else Fraction(1))

    def count(self, low, high, step):
        return math.ceil(high / step) - math.floor(low / step) + 1

    def test_multiples_of_the_least_round_step(self):
        for case in CASES:
            marks = self.marks_of(case)
            low, high = self.bounds(case)
            step = marks[1] - marks[0]
            self.assertIn(step, ROUND)
            self.assertEqual(marks, [(math.floor(low / step) + at) * step for at in range(len(marks))])
            self.assertLessEqual(len(marks), case.rows // 2 + 2)
            for lesser in ROUND[:ROUND.index(step)]:
                self.assertGreater(self.count(low, high, lesser), case.rows // 2 + 2)

    def test_all_numbers_lie_between(self):
        for case in CASES:
            marks = self.marks_of(case)
            for worth in itertools.chain(*case.drawn_numbers()):
                self.assertLessEqual(marks[0], worth)
                self.assertLessEqual(worth, marks[-1])

    def test_at_the_nearest_level(self):
        for case in CASES:
            marks, levels = self.marks_of(case), case.plan()[4]
            part = (marks[-1] - marks[0]) / case.rows
            for row, band in zip(case.drawn_numbers(), levels):
                if case.kind != "shares":
                    for worth, level in zip(row, band):
                        self.assertLessEqual(abs(marks[0] + level * part - worth), part / 2)
                elif any(row):
                    self.assertEqual(band[-1], case.rows)
                    for worth, ahead, level in zip(row, [0] + band, band):
                        self.assertLess(abs(level - ahead - worth * case.rows / 100), 1)

    def test_a_greater_one_never_stands_lower(self):
        for case in CASES:
            if case.kind != "shares":
                every = zip(itertools.chain(*case.drawn_numbers()), itertools.chain(*case.plan()[4]))
                levels = [level for worth, level in sorted(every)]
                self.assertEqual(levels, sorted(levels))

    def test_numbers_ten_times_as_great(self):
        many = 0
        for case in CASES:
            every = list(itertools.chain(*case.worths()))
            if not any(every) or any(abs(worth) * 10 >= 10 ** 12 for worth in every):
                continue
            many += 1
            other = case.with_table([(name, [word_of(10 * worth_of(word)) for word in words]) for name, words in case.table])
            one, ten = case.plan(), other.plan()
            self.assertEqual(ten[4], one[4])
            by = 1 if case.kind == "shares" else 10
            self.assertEqual([Fraction(*mark) for mark in ten[3]], [by * mark for mark in self.marks_of(case)])
        self.assertGreater(many, 200)

    def test_rows_in_another_order(self):
        for case in CASES:
            at = list(range(len(case.table)))
            for order in (at[::-1], at[1:] + at[:1], at[::2] + at[1::2]):
                other = case.with_table([case.table[place] for place in order]).plan()
                levels = case.plan()[4]
                self.assertEqual(other[4], [levels[place] for place in order])
                self.assertEqual(other[3], case.plan()[3])


class TestNames(unittest.TestCase):
    def test_none_touches_another_and_no_more_could_stand(self):
        for case in CASES:
            names = [name for name, words in case.table]
            starts = starts_of(case.kind, case.width, len(names), len(case.series))
            stand = [its is not None for its in case.plan()[5]]
            self.assertTrue(self.is_free([pair for pair, its in zip(zip(names, starts), stand) if its]))
            self.assertEqual(sum(stand), self.most(names, starts))

    def is_free(self, pairs):
        return all(start + len(name) < after for (name, start), (other, after) in zip(pairs, pairs[1:]))

    def most(self, names, starts):
        """The most names that stand from each place on, from the last one back."""
        told = [0] * (len(names) + 1)
        for at in range(len(names) - 1, -1, -1):
            behind = [place for place in range(at + 1, len(names)) if starts[place] > starts[at] + len(names[at])]
            told[at] = max(told[at + 1], 1 + (told[behind[0]] if behind else 0))
        return told[0]


class TestOneNumberOtherwise(unittest.TestCase):
    def let(self, case, at, place):
        """The columns in which [3] lets another sign stand."""
        lanes = len(case.series) if case.kind in SIDE_BY_SIDE else 1
        starts = starts_of(case.kind, case.width, len(case.table), len(case.series))
        lane = place if lanes > 1 else 0
        bands = [at, at + 1] if case.kind == "lines" else [at]
        return {starts[band] + lane * case.width + column for band in bands if band < len(starts) for column in range(case.width)}

    def others(self, case, chance):
        """The case with one number otherwise, with the number's place."""
        every = sorted(itertools.chain(*case.worths()))
        for at, place in itertools.product(range(len(case.table)), range(len(case.series))):
            for worth in {every[0], every[-1], Fraction(math.floor((every[0] + every[-1]) / 2)), chance.choice(every)}:
                table = [(name, list(words)) for name, words in case.table]
                table[at][1][place] = word_of(worth)
                yield case.with_table(table), at, place

    def test_no_other_sign_is_another_one(self):
        chance = random.Random(33)
        same = otherwise = 0
        for case in CASES:
            sheet = case.sheet()
            long = sheet[1].index("|") + 1
            for other, at, place in itertools.islice(self.others(case, chance), 24):
                other_sheet = other.sheet()
                if other.plan()[3] != case.plan()[3]:
                    continue
                same += 1
                self.assertEqual(len(other_sheet), len(sheet))
                self.assertEqual(other_sheet[case.rows + 2:], sheet[case.rows + 2:])
                columns = set()
                for one, two in zip(sheet[1:case.rows + 2], other_sheet[1:case.rows + 2]):
                    self.assertEqual(one[:long], two[:long])
                    signs = itertools.zip_longest(one[long:], two[long:], fillvalue=" ")
                    columns |= {column for column, (sign, its) in enumerate(signs) if sign != its}
                self.assertLessEqual(columns, self.let(case, at, place))
                otherwise += bool(columns)
        self.assertGreater(same, 1000)
        self.assertGreater(otherwise, 300)


if __name__ == "__main__":
    unittest.main()
