"""Numbers: [5], and [2] as far as it speaks of them."""

import unittest
from fractions import Fraction

from chartscribe.errors import NoNumber
from chartscribe.fractions import fraction
from chartscribe.numbers import read_number, show_number

WRITTEN = {
    "0": (0, 1),
    "1": (1, 1),
    "-1": (-1, 1),
    "7": (7, 1),
    "10": (10, 1),
    "-100": (-100, 1),
    "0.5": (1, 2),
    "-0.5": (-1, 2),
    "1.5": (3, 2),
    "-1.5": (-3, 2),
    "0.05": (1, 20),
    "-0.05": (-1, 20),
    "0.25": (1, 4),
    "10.01": (1001, 100),
    "100.000001": (100000001, 1000000),
    "0.000000000001": (1, 10 ** 12),
    "-0.000000000001": (-1, 10 ** 12),
    "0.000244140625": (1, 4096),
    "0.100000000001": (100000000001, 10 ** 12),
    "999999999999999": (10 ** 15 - 1, 1),
    "-999999999999999": (1 - 10 ** 15, 1),
    "100000000000000": (10 ** 14, 1),
    "999999999999999.999999999999": (10 ** 27 - 1, 10 ** 12),
    "-999999999999999.999999999999": (1 - 10 ** 27, 10 ** 12),
    "123456789012345.5": (246913578024691, 2),
}

UNWRITTEN_TEXTS = [
    "", "-", "-0", "+", ".", "-.",
    "00", "01", "-00", "-01", "000", "007", "00.5", "01.5", "-01.5", "-00.5",
    "1.0", "0.0", "-0.0", "1.50", "-1.50", "0.10", "1.00", "100.0", "1.000000000000",
    "1.", "-1.", "0.", "-0.", ".5", "-.5", "1..5", "1.5.", "1.5.5", "..5", ".1.", "1.2.3",
    "+1", "+0", "+1.5", "--1", "-+1", "+-1", "1-", "1-1", "1.-5", "1.+5", "0-", "- 1",
    " 1", "1 ", "1 2", "1. 5", "1 .5", "1.5 ", " ", "-0.5 ", " -1",
    "\n1", "1\n", "1\n2", "1.5\n", "1.\n5", "\n", "-1\n", "-\n1", "\t1", "1\t", "1\r",
    "1_0", "_1", "1_", "1.5_5", "1.0_5", "1,5", "1,000", "1/2", "1e5", "1E5", "1.5e2", "0x1", "1a", "a", "-a",
    "a1", "1.a", "1.5a", "nan", "inf", "infinity", "-inf", "None", "True", "~", "#1",
    "\u0661", "1\u0662", "\u00b2", "1.\u0665", "\u22121", "\uff11",
]

# Each other sign behind a figure.
UNWRITTEN_TEXTS += ["1" + chr(number) for number in range(128) if chr(number) not in "0123456789"]

NO_TEXTS = [None, 0, 1, -5, 10 ** 30, True, False, [], ["1"], (), ("1",), (1, 2), {}, {"1": "1"}, b"1", 1.5]


class TestBothWays(unittest.TestCase):
    def test_what_is_read_is_the_fraction_that_is_written(self):
        for text, one in WRITTEN.items():
            with self.subTest(text):
                told = read_number(text)
                self.assertEqual(told, one)
                self.assertIs(type(told), tuple)
                self.assertEqual([type(part) for part in told], [int, int])

    def test_what_is_shown_is_the_text(self):
        for text, one in WRITTEN.items():
            with self.subTest(text):
                told = show_number(one)
                self.assertEqual(told, text)
                self.assertIs(type(told), str)

    def test_each_count_of_figures(self):
        figures = "987654321987654"
        for ahead in ["0", *[figures[:many] for many in range(1, 16)]]:
            for many in range(13):
                text = ahead + ("." + figures[:many] if many else "")
                for text in [text] if text == "0" else [text, "-" + text]:
                    told = read_number(text)
                    worth = Fraction(text)
                    self.assertEqual(told, (worth.numerator, worth.denominator), text)
                    self.assertEqual(show_number(told), text)

    def test_noughts_within(self):
        for many in range(12):
            text = "1." + "0" * many + "1"
            self.assertEqual(read_number(text), fraction(10 ** (many + 1) + 1, 10 ** (many + 1)))
            self.assertEqual(show_number(read_number(text)), text)
        for many in range(15):
            text = "1" + "0" * many
            self.assertEqual(read_number(text), (10 ** many, 1))
            self.assertEqual(show_number(read_number(text)), text)

    def test_all_hundredths_from_minus_three_to_three(self):
        shown = set()
        for hundredths in range(-300, 301):
            one = fraction(hundredths, 100)
            text = show_number(one)
            self.assertEqual(read_number(text), one)
            shown.add(text)
        self.assertEqual(len(shown), 601)


class TestReadRefuses(unittest.TestCase):
    def assert_refused(self, thing):
        with self.assertRaises(NoNumber):
            read_number(thing)

    def test_texts_that_write_no_number(self):
        for text in UNWRITTEN_TEXTS:
            with self.subTest(text):
                self.assert_refused(text)

    def test_too_many_figures(self):
        for sign in ("", "-"):
            self.assert_refused(sign + "1" * 16)
            self.assert_refused(sign + "1" * 16 + ".5")
            self.assert_refused(sign + "1" + "0" * 15)
            self.assert_refused(sign + "1." + "1" * 13)
            self.assert_refused(sign + "0." + "0" * 12 + "1")
            self.assert_refused(sign + "1" * 15 + "." + "1" * 13)

    def test_many_thousand_figures(self):
        for many in (4300, 4301, 5000, 20000):
            for text in ("1" * many, "-" + "1" * many, "0." + "1" * many, "0" * many, "1." + "0" * many):
                self.assert_refused(text)

    def test_what_is_no_text(self):
        for thing in NO_TEXTS:
            with self.subTest(thing):
                self.assert_refused(thing)

    def test_lists_handed_in_stay(self):
        handed = ["1", ["2"]]
        self.assert_refused(handed)
        self.assertEqual(handed, ["1", ["2"]])


class TestShowRefuses(unittest.TestCase):
    def assert_refused(self, one):
        for signed in (one, (-one[0], one[1])):
            with self.subTest(signed[0] < 0):
                with self.assertRaises(NoNumber):
                    show_number(signed)

    def test_another_prime_in_the_bottom(self):
        for one in [(1, 3), (2, 3), (1, 6), (1, 7), (1, 30), (10, 11), (22, 7), (1, 3 * 10 ** 12), (10 ** 14, 3)]:
            self.assert_refused(one)

    def test_thirteen_places(self):
        for one in [(1, 10 ** 13), (1, 2 ** 13), (1, 5 ** 13), (10 ** 13 + 1, 10 ** 13), (3, 2 ** 13 * 5 ** 2)]:
            self.assert_refused(one)

    def test_twelve_places_are_shown(self):
        self.assertEqual(show_number((1, 2 ** 12)), "0.000244140625")
        self.assertEqual(show_number((1, 5 ** 12)), "0.000000004096")
        self.assertEqual(show_number((-1, 5 ** 12)), "-0.000000004096")

    def test_sixteen_figures_ahead(self):
        for one in [(10 ** 15, 1), (10 ** 15 + 1, 1), (2 * 10 ** 15 + 1, 2), (10 ** 27 + 1, 10 ** 12), (10 ** 30 - 1, 1)]:
            self.assert_refused(one)

    def test_however_great(self):
        great = 10 ** 9000
        for one in [(great, 1), (1, great), (great + 1, great), (great + 1, 3), (1, 7 ** 9000)]:
            self.assert_refused(one)


if __name__ == "__main__":
    unittest.main()
