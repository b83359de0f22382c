"""Tables: [8], and [2] as far as it speaks of them."""

import copy
import unittest

from chartscribe.errors import NoTable
from chartscribe.fractions import is_fraction
from chartscribe.tables import is_name, table_of

SERIES = ["apples", "pears", "figs", "plums"]
MONTHS = ["january", "february", "march", "april", "may", "june", "july", "august", "september", "october", "november",
          "december"]
GREATEST = (10 ** 18 - 1, 10 ** 6)
# Numbers within the bounds: 0, of either sign, of twelve figures ahead of the point and six behind it.
WITHIN = [
    (0, 1), (1, 1), (-1, 1), (1, 2), (-1, 2), (1, 5), (7, 4), (-7, 8), (1, 10 ** 6), (-1, 10 ** 6), GREATEST,
    (1 - 10 ** 18, 10 ** 6), (10 ** 12 - 1, 1), (1 - 10 ** 12, 1), (10 ** 11, 1), (1, 2 ** 6), (1, 5 ** 6),
    (123456789012123457, 10 ** 6), (-123456789012123457, 10 ** 6), (10 ** 6 + 1, 10 ** 6), (2 * 10 ** 12 - 1, 2),
]
# Fractions beyond them: thirteen figures ahead of the point, seven behind it, a bottom that no text has.
BEYOND = [
    (10 ** 12, 1), (-(10 ** 12), 1), (10 ** 12 + 1, 1), (2 * 10 ** 12 + 1, 2), (10 ** 18 + 1, 10 ** 6), (10 ** 15, 1),
    (10 ** 29, 1), (-(10 ** 29), 1), (1, 10 ** 7), (-1, 10 ** 7), (10 ** 7 + 1, 10 ** 7), (1, 2 ** 7), (1, 5 ** 7),
    (-3, 2 ** 7), (1, 10 ** 12), (1, 10 ** 13), (1, 3), (-1, 3), (1, 6), (22, 7), (1, 7 * 10 ** 5), (10 ** 11, 9),
    (1, 10 ** 29), (10 ** 30 - 1, 10 ** 29), (10 ** 5000, 1), (1, 10 ** 5000), (10 ** 5000 + 1, 10 ** 5000),
]
NO_NAMES = ["", "A", "a b", "elevensigns", "a1", "a-b", "a_b", "a.b", "a\n", " ", "\n", "-", "`", "{", "Apples"]


def rows_of(many, across):
    """So many rows with unlike names and numbers, across numbers in each."""
    return [(MONTHS[at], [(at * 10 + place, 1) for place in range(across)]) for at in range(many)]


class TestIsName(unittest.TestCase):
    def test_how_many_signs(self):
        self.assertIs(is_name(""), False)
        for many in range(1, 11):
            self.assertIs(is_name("abcdefghijk"[:many]), True)
            self.assertIs(is_name("z" * many), True)
        for many in (11, 12, 20, 400, 20000):
            self.assertIs(is_name("a" * many), False)

    def test_each_letter(self):
        for letter in "abcdefghijklmnopqrstuvwxyz":
            self.assertIs(is_name(letter), True)
            self.assertIs(is_name("x" + letter + "y"), True)

    def test_other_signs_anywhere(self):
        others = "AMZ0123456789 .-_\n`{\t/@[~#+'\",:" + "\u00e9\u00df\u0430\u00aa\uff41"
        for sign in others:
            for text in (sign, sign + "ab", "a" + sign + "b", "ab" + sign, "abcdefghi" + sign, sign * 10):
                with self.subTest(text):
                    self.assertIs(is_name(text), False)

    def test_each_sign_from_the_blank_on(self):
        for number in range(128):
            self.assertIs(is_name(chr(number)), 97 <= number <= 122, number)

    def test_what_is_no_text(self):
        for thing in (None, 0, 1, True, [], ["a"], ("a",), b"a", {"a": 1}):
            self.assertIs(is_name(thing), False)


class TestTableOf(unittest.TestCase):
    def assert_tuples(self, table):
        """A table is of tuples all through."""
        self.assertIs(type(table), tuple)
        series, rows = table
        self.assertIs(type(series), tuple)
        self.assertIs(type(rows), tuple)
        for row in rows:
            self.assertIs(type(row), tuple)
            name, numbers = row
            self.assertIs(type(name), str)
            self.assertIs(type(numbers), tuple)
            for one in numbers:
                self.assertIs(type(one), tuple)

    def test_by_hand(self):
        told = table_of(["apples", "pears"], [("may", [(1, 1), (1, 2)]), ("june", [(-3, 1), (0, 1)])])
        self.assertEqual(told, (("apples", "pears"), (("may", ((1, 1), (1, 2))), ("june", ((-3, 1), (0, 1))))))
        self.assert_tuples(told)

    def test_one_to_four_series_and_one_to_twelve_rows(self):
        for across in range(1, 5):
            for many in range(1, 13):
                rows = rows_of(many, across)
                told = table_of(SERIES[:across], rows)
                kept = tuple((name, tuple(numbers)) for name, numbers in rows)
                self.assertEqual(told, (tuple(SERIES[:across]), kept))
                self.assert_tuples(told)

    def test_numbers_within_the_bounds(self):
        for one in WITHIN:
            with self.subTest(one):
                self.assertEqual(table_of(["a"], [("b", [one])]), (("a",), (("b", (one,)),)))

    def test_names_that_stand_elsewhere_too(self):
        told = table_of(["series", "a"], [("series", [(1, 1), (1, 1)]), ("a", [(1, 1), (1, 1)])])
        self.assertEqual(told[0], ("series", "a"))
        self.assertEqual([name for name, numbers in told[1]], ["series", "a"])

    def test_names_of_one_and_of_ten_signs(self):
        told = table_of(["a", "abcdefghij"], [("z", [(1, 1), (2, 1)]), ("zzzzzzzzzz", [(3, 1), (4, 1)])])
        self.assertEqual(told[0], ("a", "abcdefghij"))
        self.assertEqual([name for name, numbers in told[1]], ["z", "zzzzzzzzzz"])

    def test_what_is_handed_in_stays(self):
        series, rows = SERIES[:3], rows_of(5, 3)
        before = copy.deepcopy((series, rows))
        table_of(series, rows)
        self.assertEqual((series, rows), before)

    def test_what_is_refused_stays(self):
        series, rows = SERIES[:3], rows_of(5, 3)
        rows[4][1].append((1, 3))
        before = copy.deepcopy((series, rows))
        with self.assertRaises(NoTable):
            table_of(series, rows)
        self.assertEqual((series, rows), before)

    def test_what_is_done_to_it_behind_the_call_changes_nothing(self):
        series, rows = SERIES[:2], rows_of(2, 2)
        told = table_of(series, rows)
        before = copy.deepcopy(told)
        series[0] = "other"
        series.append("more")
        rows[0][1][0] = (99, 1)
        rows[1][1].clear()
        rows.pop()
        self.assertEqual(told, before)

    def test_what_is_told_may_be_handed_in_again(self):
        told = table_of(SERIES, rows_of(12, 4))
        self.assertEqual(table_of(*told), told)


class TestRefused(unittest.TestCase):
    def assert_refused(self, series, rows, row):
        with self.assertRaises(NoTable) as caught:
            table_of(series, rows)
        self.assertEqual(caught.exception.row, row)
        self.assertIs(type(caught.exception.row), int)

    def test_how_many_series(self):
        self.assert_refused([], [("may", [])], -1)
        self.assert_refused([*SERIES, "dates"], rows_of(1, 5), -1)
        self.assert_refused(["a" * (at // 26) + "abcdefghijklmnopqrstuvwxyz"[at % 26] for at in range(200)],
                            [("may", [(1, 1)] * 200)], -1)

    def test_a_series_that_is_no_name(self):
        for wrong in NO_NAMES:
            with self.subTest(wrong):
                self.assert_refused([wrong], rows_of(1, 1), -1)
                self.assert_refused([wrong, "b", "c"], rows_of(1, 3), -1)
                self.assert_refused(["b", wrong, "c"], rows_of(1, 3), -1)
                self.assert_refused(["b", "c", "d", wrong], rows_of(1, 4), -1)

    def test_two_series_alike(self):
        self.assert_refused(["a", "a"], rows_of(1, 2), -1)
        self.assert_refused(["a", "b", "a"], rows_of(1, 3), -1)
        self.assert_refused(["a", "b", "c", "c"], rows_of(1, 4), -1)

    def test_how_many_rows(self):
        self.assert_refused(["a"], [], 0)
        self.assert_refused(SERIES, [], 0)
        self.assert_refused(["a"], [*rows_of(12, 1), ("more", [(1, 1)])], 13)
        self.assert_refused(["a"], [("a" * (at % 9 + 1), [(1, 1)]) for at in range(300)], 300)

    def test_a_row_whose_name_is_none(self):
        for wrong in NO_NAMES:
            for at in (0, 1, 4, 11):
                rows = rows_of(12, 2)
                rows[at] = (wrong, [(1, 1), (2, 1)])
                self.assert_refused(["a", "b"], rows, at)

    def test_a_row_whose_name_is_that_of_a_row_ahead(self):
        for ahead in range(12):
            for at in range(ahead + 1, 12):
                rows = rows_of(12, 1)
                rows[at] = (rows[ahead][0], [(77, 1)])
                self.assert_refused(["a"], rows, at)

    def test_a_number_too_few_and_too_many(self):
        for across in range(1, 5):
            for at in (0, 1, 11):
                for many in {0, across - 1, across + 1, across + 7}:
                    rows = rows_of(12, across)
                    rows[at] = (rows[at][0], [(1, 1)] * many)
                    self.assert_refused(SERIES[:across], rows, at)

    def test_a_number_beyond_the_bounds(self):
        for one in BEYOND:
            self.assertTrue(is_fraction(one))
            for at in (0, 1, 11):
                for place in (0, 1, 2):
                    rows = rows_of(12, 3)
                    rows[at][1][place] = one
                    self.assert_refused(SERIES[:3], rows, at)

    def test_a_number_that_is_no_fraction(self):
        for wrong in [None, 1, "1", True, (2, 4), (1, 0), (1, -2), (0, 2), (True, 1), (1, True), (1,), (1, 2, 3),
                      [1, 2]]:
            with self.subTest(wrong):
                self.assert_refused(["a"], [("b", [(1, 1)]), ("c", [wrong])], 1)


class TestWhichIsTheFirst(unittest.TestCase):
    assert_refused = TestRefused.assert_refused

    def test_the_series_go_ahead_of_all(self):
        bad_rows = [("A", []), ("A", [(1, 3)])]
        for series in ([], [*SERIES, "dates"], ["A"], ["a", "a"]):
            self.assert_refused(series, [], -1)
            self.assert_refused(series, bad_rows, -1)
            self.assert_refused(series, bad_rows * 7, -1)

    def test_how_many_rows_goes_ahead_of_what_is_in_them(self):
        self.assert_refused(["a"], [("A", [])] * 13, 13)
        self.assert_refused(["a"], [("b", [(1, 3)])] * 14, 14)

    def test_the_first_row_goes_ahead_whatever_is_wrong_with_it(self):
        good = [(1, 1), (2, 1)]
        wrong = [("A", good), ("c", [(1, 1)]), ("d", [*good, (3, 1)]), ("e", [(1, 1), (1, 3)]), ("may", good)]
        for one in wrong:
            for other in wrong:
                self.assert_refused(["a", "b"], [("may", good), one, ("june", good), other], 1)
                self.assert_refused(["a", "b"], [("may", good), ("june", good), one, other], 2)

    def test_several_faults_in_one_row(self):
        self.assert_refused(["a"], [("b", [(1, 1)]), ("", [(1, 3), (1, 7)]), ("", [])], 1)
        self.assert_refused(["a"], [("b", [(1, 1)]), ("b", []), ("c", [(1, 3)])], 1)


if __name__ == "__main__":
    unittest.main()
