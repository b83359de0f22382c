"""Tables written and read: [9], and [2] as far as it speaks of them."""

import itertools
import unittest

from chartscribe.errors import NoText
from chartscribe.numbers import read_number
from chartscribe.tables import table_of
from chartscribe.tabletexts import read_table, show_table

SERIES = ["apples", "pears", "figs", "plums"]
NAMES = ["a", "b", "series", "abcdefghij", "e", "f", "g", "h", "i", "j", "k", "zzzzzzzzzz"]
# Numbers of every form within a table's bounds.
AHEAD = ["0", "7", "10", "100", "4096", "123456789012", "999999999999", "100000000000"]
BEHIND = ["", ".5", ".05", ".25", ".000001", ".999999", ".123456", ".100001"]
NUMBERS = [sign + ahead + behind for ahead in AHEAD for behind in BEHIND for sign in ("", "-")]
NUMBERS.remove("-0")
# Words that are no number, or one beyond a table's bounds.
NO_NUMBERS = [
    "x", "-", "-0", "+1", "01", "1.0", "1.50", "1.", ".5", "00", "--1", "1e5", "1,5", "1/2", "0x1", "1_0", "\t1", "1\t",
    "1000000000000", "-1000000000000", "9999999999999", "1234567890123.5", "0.0000001", "-0.0000001", "1.1234567",
    "999999999999.9999999", "999999999999999", "0.000000000001", "1" * 16, "1" * 5000, "0." + "1" * 5000, "1\r", "~",
]
NO_NAMES = ["A", "elevensigns", "a1", "a-b", "a_b", "a.b", "-", "1", "a\t", "\ta", "a\r", "~"]


def text_of(series, rows):
    return "\n".join([" ".join(["series", *series]), *[" ".join([name, *words]) for name, words in rows]])


def words_of(many, across):
    """So many rows of words, with numbers of many forms."""
    numbers = itertools.cycle(NUMBERS)
    return [(NAMES[at], [next(numbers) for place in range(across)]) for at in range(many)]


def made_of(series, rows):
    return table_of(series, [(name, [read_number(word) for word in words]) for name, words in rows])


class TestBothWays(unittest.TestCase):
    def assert_both_ways(self, table, text):
        self.assertEqual(show_table(table), text)
        self.assertEqual(read_table(text), table)
        self.assertEqual(show_table(read_table(text)), text)

    def test_by_hand(self):
        self.assert_both_ways((("apples",), (("may", ((3, 2),)),)), "series apples\nmay 1.5")
        self.assert_both_ways(
            (("apples", "pears"), (("may", ((1, 1), (-1, 2))), ("june", ((0, 1), (10 ** 12 - 1, 1))))),
            "series apples pears\nmay 1 -0.5\njune 0 999999999999")
        self.assert_both_ways((("series",), (("series", ((0, 1),)),)), "series series\nseries 0")

    def test_one_to_four_series_and_one_to_twelve_rows(self):
        for across in range(1, 5):
            for many in range(1, 13):
                rows = words_of(many, across)
                self.assert_both_ways(made_of(SERIES[:across], rows), text_of(SERIES[:across], rows))

    def test_numbers_of_every_form(self):
        for word in NUMBERS:
            with self.subTest(word):
                self.assert_both_ways((("a",), (("b", (read_number(word),)),)), "series a\nb " + word)

    def test_what_is_told_is_of_tuples_all_through(self):
        table = read_table("series a b\nc 1 2\nd 3 4")
        self.assertIs(type(table), tuple)
        self.assertEqual([type(part) for part in table], [tuple, tuple])
        for row in table[1]:
            self.assertIs(type(row), tuple)
            self.assertEqual([type(part) for part in row], [str, tuple])
            self.assertEqual([type(one) for one in row[1]], [tuple, tuple])

    def test_unlike_tables_have_unlike_texts(self):
        tables = [made_of(SERIES[:across], words_of(many, across)) for across in range(1, 5) for many in range(1, 13)]
        tables += [made_of(["a"], [("b", [word])]) for word in NUMBERS]
        tables += [made_of(["a"], [("c", ["1"])]), made_of(["b"], [("c", ["1"])]), made_of(["b"], [("d", ["1"])]),
                   made_of(["a", "b"], [("c", ["1", "2"])]), made_of(["b", "a"], [("c", ["1", "2"])]),
                   made_of(["a", "b"], [("c", ["2", "1"])]), made_of(["a"], [("c", ["1"]), ("d", ["2"])]),
                   made_of(["a"], [("d", ["2"]), ("c", ["1"])]), made_of(["a"], [("c", ["12"])])]
        self.assertEqual(len(set(tables)), len(tables))
        self.assertEqual(len({show_table(table) for table in tables}), len(tables))


class RefusedCase(unittest.TestCase):
    def assert_refused(self, text, row):
        with self.subTest(text):
            with self.assertRaises(NoText) as caught:
                read_table(text)
            self.assertEqual(caught.exception.row, row)
            self.assertIs(type(caught.exception.row), int)


class TestFirstRowRefused(RefusedCase):
    def test_what_is_no_text(self):
        for thing in (None, 0, 1, True, [], ["series a", "b 1"], ("series a\nb 1",), b"series a\nb 1", {}):
            self.assert_refused(thing, 0)

    def test_the_text_without_signs(self):
        self.assert_refused("", 0)

    def test_line_feeds_alone_and_ahead(self):
        self.assert_refused("\n", 0)
        self.assert_refused("\nseries a\nb 1", 0)
        self.assert_refused(" ", 0)

    def test_the_first_word(self):
        for first in ("a", "Series a", "serie a", "seriess a", "rows a", "a series", "apples pears", "seriesa",
                      "-series a"):
            self.assert_refused(first + "\nb 1", 0)
            self.assert_refused(first, 0)

    def test_how_many_names(self):
        self.assert_refused("series\nb 1", 0)
        self.assert_refused("series", 0)
        self.assert_refused("series \nb 1", 0)
        self.assert_refused("series a b c d e\nf 1 2 3 4 5", 0)
        self.assert_refused("series a b c d e", 0)

    def test_two_names_alike(self):
        self.assert_refused("series a a\nb 1 2", 0)
        self.assert_refused("series a b c a\nb 1 2 3 4", 0)

    def test_no_name_in_one_place(self):
        for wrong in NO_NAMES:
            self.assert_refused(f"series {wrong}\nb 1", 0)
            self.assert_refused(f"series {wrong} c d\nb 1 2 3", 0)
            self.assert_refused(f"series c {wrong} d\nb 1 2 3", 0)
            self.assert_refused(f"series c d {wrong}\nb 1 2 3", 0)

    def test_blanks(self):
        for first in ("series  a", " series a", "series a ", "series a  b", "  series a", "series a b  ", "series\ta"):
            self.assert_refused(first + "\nb 1 2", 0)
            self.assert_refused(first + "\nb 1", 0)
            self.assert_refused(first, 0)

    def test_the_first_row_alone(self):
        self.assert_refused("series a", 1)
        self.assert_refused("series a b c d", 1)
        self.assert_refused("series a\n", 1)
        self.assert_refused("series a\n\n", 1)


class TestRowRefused(RefusedCase):
    def assert_row_refused(self, wrong, across=2):
        """Refused by its number wherever such a row stands, whatever stands behind it."""
        for at in (1, 2, 7, 12):
            lines = text_of(SERIES[:across], words_of(12, across)).split("\n")
            lines[at] = wrong
            self.assert_refused("\n".join(lines), at)
            self.assert_refused("\n".join(lines[:at + 1]), at)
            self.assert_refused("\n".join([*lines[:at + 1], "", "A", wrong]), at)

    def test_a_name_that_is_none(self):
        for wrong in NO_NAMES:
            self.assert_row_refused(wrong + " 1 2")

    def test_a_name_that_stands_ahead(self):
        for ahead in range(12):
            for at in range(ahead + 1, 12):
                rows = words_of(12, 1)
                rows[at] = (rows[ahead][0], ["77"])
                self.assert_refused(text_of(["a"], rows), at + 1)

    def test_a_number_too_few_and_too_many(self):
        for across in range(1, 5):
            for many in {0, across - 1, across + 1, across + 5}:
                self.assert_row_refused(" ".join(["new", *["1"] * many]), across)

    def test_a_word_that_is_no_number_or_one_beyond_the_bounds(self):
        for wrong in NO_NUMBERS:
            self.assert_row_refused(f"new {wrong} 1")
            self.assert_row_refused(f"new 1 {wrong}")

    def test_blanks(self):
        for wrong in ("new  1 2", "new 1  2", " new 1 2", "new 1 2 ", "  new 1 2", "new 1 2  ", "new  1", "new 1 ",
                      " 1 2", "new\t1 2", "new", "new ", " ", "  "):
            self.assert_row_refused(wrong)

    def test_a_row_without_signs_within(self):
        self.assert_row_refused("")

    def test_a_line_feed_at_the_end(self):
        for many in range(1, 13):
            self.assert_refused(text_of(["a"], words_of(many, 1)) + "\n", many + 1)
            self.assert_refused(text_of(["a"], words_of(many, 1)) + "\n\n", many + 1)

    def test_other_ends_of_lines_part_no_rows(self):
        for end in ("\r", "\r\n", "\v", "\f", "\x1c", "\u2028"):
            self.assert_refused("series a" + end + "b 1", 0)
            self.assert_refused("series a\nb 1" + end + "c 2", 1)

    def test_a_thirteenth_row(self):
        text = text_of(["a"], words_of(12, 1))
        for wrong in ("more 1", "more 1\nstill 2", "", "A x", "more x", "more 1 2", NAMES[0] + " 1"):
            self.assert_refused(text + "\n" + wrong, 13)
        self.assert_refused(text + "\nmore 1" * 200, 13)


class TestWhichIsTheFirst(RefusedCase):
    def test_the_first_row_that_is_wrong(self):
        wrong = ["A 1", "new", "new 1 2", "new x", "b 1", "new  1", "", "new 1000000000000"]
        for one in wrong:
            for other in wrong:
                self.assert_refused(f"series a\nb 1\n{one}\n{other}", 2)
                self.assert_refused(f"series a\nb 1\nc 2\n{one}\nd 4\n{other}", 3)
                self.assert_refused(f"series A\n{one}\n{other}", 0)

    def test_a_wrong_row_goes_ahead_of_too_many(self):
        lines = text_of(["a"], words_of(12, 1)).split("\n")
        lines += ["more 1", "still 2"]
        lines[3] = "A 1"
        self.assert_refused("\n".join(lines), 3)


if __name__ == "__main__":
    unittest.main()
