"""The desk: [23], and [2] as far as it speaks of it."""

import itertools
import unittest

from chartscribe.desk import Desk
from chartscribe.drawings import Bars, Lines, Shares, Stacks
from chartscribe.errors import Below, ChartError, NoName, NoNumber, NoRow, NoSheet, NoSize, NoTable, NoText
from chartscribe.plans import left_out, plan_of
from chartscribe.sheets import sheet_of
from chartscribe.tabletexts import read_table

KINDS = {"bars": Bars, "stacks": Stacks, "shares": Shares, "lines": Lines}
FRUIT = "series apples pears\nmay 3 4.5\njune 17 0\njuly 4 8"
SIGNED = "series s\na -1\nb 2"
# All that takes a table that stands, with words that hold.
DEEDS = ["show fruit", "drop fruit", "put fruit may pears 1", "cut fruit may", "draw bars fruit 8 2", "left lines fruit 8 2"]
NO_NAMES = ["", "A", "Fruit", "elevensigns", "a1", "1", "-", "a-b", "a_b", "a.b", "0.5"]
NO_NUMBERS = ["", "x", "-", "-0", "+1", "01", "1.0", "1.50", "1.", ".5", "00", "--1", "1e5", "1,5", "1/2", "1" * 16, "may", "~",
              "0.0000000000001", "1" * 5000]


def desk_with(**tables):
    made = Desk()
    for name, text in tables.items():
        made.say(f"table {name}\n{text}")
    return made


class DeskCase(unittest.TestCase):
    def setUp(self):
        self.desk = desk_with(fruit=FRUIT, signed=SIGNED)

    def shown(self, desk):
        """The text of each table that stands, and what refuses the others."""
        told = {}
        for name in ("fruit", "signed", "other", "table", "a"):
            try:
                told[name] = desk.say("show " + name)
            except NoName:
                told[name] = None
        return told

    def assert_refused(self, kind, text, **fields):
        kept = self.shown(self.desk)
        with self.assertRaises(ChartError) as caught:
            self.desk.say(text)
        self.assertIs(type(caught.exception), kind, text)
        self.assertEqual({name: getattr(caught.exception, name) for name in fields}, fields)
        self.assertEqual(self.shown(self.desk), kept)

    def assert_said(self, text, answer):
        told = self.desk.say(text)
        self.assertIs(type(told), str)
        self.assertEqual(told, answer)


class TestTables(DeskCase):
    def test_table_and_show(self):
        self.assert_said("table other\nseries x\nq 1.5", "ok")
        self.assert_said("show other", "series x\nq 1.5")
        self.assert_said("show fruit", FRUIT)
        self.assert_said("show signed", SIGNED)

    def test_in_the_place_of_one_that_was_there(self):
        self.assert_said("table fruit\nseries x y\nq 1 2\nr 3 4", "ok")
        self.assert_said("show fruit", "series x y\nq 1 2\nr 3 4")
        self.assert_said("table fruit\n" + FRUIT, "ok")
        self.assert_said("show fruit", FRUIT)

    def test_drop(self):
        self.assert_said("drop fruit", "ok")
        self.assert_refused(NoName, "show fruit", name="fruit")
        self.assert_refused(NoName, "drop fruit", name="fruit")
        self.assert_said("show signed", SIGNED)
        self.assert_said("table fruit\n" + SIGNED, "ok")
        self.assert_said("show fruit", SIGNED)

    def test_put(self):
        self.assert_said("put fruit may apples -2.25", "ok")
        self.assert_said("show fruit", FRUIT.replace("may 3", "may -2.25"))
        self.assert_said("put fruit may pears 0", "ok")
        self.assert_said("put fruit july pears 999999999999.999999", "ok")
        self.assert_said("put fruit june apples -0.000001", "ok")
        self.assert_said("show fruit", "series apples pears\nmay -2.25 0\njune -0.000001 0\njuly 4 999999999999.999999")
        self.assert_said("put fruit june apples -0.000001", "ok")

    def test_put_at_each_place(self):
        for (at, row), (place, series) in itertools.product(enumerate(["may", "june", "july"]), enumerate(["apples", "pears"])):
            desk = desk_with(fruit=FRUIT)
            self.assertEqual(desk.say(f"put fruit {row} {series} 77"), "ok")
            lines = [line.split(" ") for line in FRUIT.split("\n")]
            lines[at + 1][place + 1] = "77"
            self.assertEqual(desk.say("show fruit"), "\n".join(" ".join(line) for line in lines))

    def test_cut(self):
        self.assert_said("cut fruit june", "ok")
        self.assert_said("show fruit", "series apples pears\nmay 3 4.5\njuly 4 8")
        self.assert_said("cut fruit july", "ok")
        self.assert_said("show fruit", "series apples pears\nmay 3 4.5")
        self.assert_refused(NoTable, "cut fruit may", row=0)
        self.assert_refused(NoName, "cut fruit june", name="june")
        self.assert_said("show fruit", "series apples pears\nmay 3 4.5")

    def test_two_desks_beside_one_another(self):
        other = desk_with(fruit=SIGNED)
        self.assertEqual(other.say("show fruit"), SIGNED)
        self.assert_said("show fruit", FRUIT)
        self.assert_said("drop fruit", "ok")
        self.assertEqual(other.say("show fruit"), SIGNED)
        other.say("put fruit a s 5")
        self.assert_said("show signed", SIGNED)
        with self.assertRaises(NoName):
            Desk().say("show fruit")

    def test_a_new_desk_has_no_table(self):
        for name in ("a", "table", "fruit"):
            with self.assertRaises(NoName) as caught:
                Desk().say("show " + name)
            self.assertEqual(caught.exception.name, name)

    def test_names_that_are_words_of_the_desk(self):
        words = ["table", "show", "drop", "put", "cut", "draw", "left", "read", "bars", "series", "ok", "lines"]
        for name in words:
            text = f"series {name}\n{name} 7"
            self.assert_said(f"table {name}\n{text}", "ok")
        for name in words:
            self.assert_said(f"put {name} {name} {name} 8", "ok")
            self.assert_said("show " + name, f"series {name}\n{name} 8")
            self.assert_said(f"left bars {name} 2 1", "")
            self.assert_said(f"drop {name}", "ok")

    def test_a_name_of_one_letter_and_of_ten(self):
        for name in ("x", "abcdefghij"):
            self.assert_said(f"table {name}\n{SIGNED}", "ok")
            self.assert_said("show " + name, SIGNED)


class TestDrawn(DeskCase):
    def test_draw_and_left(self):
        table = read_table(FRUIT)
        for kind, rows, width in itertools.product(KINDS, (2, 3, 8, 40), range(1, 7)):
            made = KINDS[kind](table, rows, width)
            self.assert_said(f"draw {kind} fruit {rows} {width}", "\n".join(sheet_of(plan_of(made))))
            self.assert_said(f"left {kind} fruit {rows} {width}", " ".join(left_out(made)))

    def test_draw_by_hand(self):
        self.assert_said("draw stacks fruit 2 1", "\n".join([
            "stacks 1", "20|  #", "10|+ # +", " 0|-----", "   may july", "# apples", "+ pears",
        ]))
        self.assert_said("left stacks fruit 2 1", "june")
        self.assert_said("table other\nseries x\nabc 1\ndefgh 0\nijk 2\nl 1\nm 0", "ok")
        # They begin at 0, 2, 4, 6 and 8: the first ends at 2, the third at 6, the fourth at 6, the fifth at 8.
        self.assert_said("left shares other 2 1", "defgh l")
        self.assert_said("left bars fruit 2 2", "")
        self.assert_said("draw bars signed 3 1", "\n".join(["bars 1", " 2|  #", " 0|---", "  |#", "-2|", "   a b", "# s"]))
        self.assert_said("draw lines signed 2 1", "\n".join(["lines 1", " 2|  #", " 0|#", "-2|", "   a b", "# s"]))

    def test_each_time_anew(self):
        ahead = self.desk.say("draw bars fruit 8 2")
        self.desk.say("put fruit may apples 20")
        after = self.desk.say("draw bars fruit 8 2")
        self.assertNotEqual(ahead, after)
        self.desk.say("put fruit may apples 3")
        self.assert_said("draw bars fruit 8 2", ahead)

    def test_read(self):
        for kind, rows, width in itertools.product(KINDS, (2, 3, 8, 40), range(1, 7)):
            made = KINDS[kind](read_table(FRUIT), rows, width)
            names = plan_of(made)[5]
            told = [" ".join([name or "-", *map(str, levels)]) for name, levels in zip(names, made.levels())]
            self.assert_said("read\n" + self.desk.say(f"draw {kind} fruit {rows} {width}"), "\n".join(told))

    def test_read_by_hand(self):
        self.assert_said("read\nstacks 1\n20|  #\n10|# # +\n 0|-----\n   may\n# apples\n+ pears", "may 1 1\n- 2 2\n- 0 1")
        self.assert_said("read\nlines 1\n1|#\n |\n0|\n\n# s", "- 2")

    def test_read_needs_no_table_and_keeps_none(self):
        desk = Desk()
        self.assertEqual(desk.say("read\nlines 1\n1|#\n |\n0|\n  abc\n# s"), "abc 2")
        with self.assertRaises(NoName):
            desk.say("show abc")

    def test_drawing_changes_no_table(self):
        kept = self.shown(self.desk)
        for kind in KINDS:
            self.desk.say(f"draw {kind} fruit 8 2"), self.desk.say(f"left {kind} fruit 8 2")
        self.assertEqual(self.shown(self.desk), kept)


class TestNoRow(DeskCase):
    def test_what_is_no_text(self):
        for thing in (None, 1, 0, True, [], ["show fruit"], ("show", "fruit"), b"show fruit", {}, ""):
            self.assert_refused(NoRow, thing)

    def test_a_word_that_is_no_deed(self):
        for word in ("x", "Show", "SHOW", "shows", "sho", "tables", "kept", "say", "ok", "fruit", "bars", "-", "1"):
            self.assert_refused(NoRow, word)
            for rest in ("fruit", "fruit may", "bars fruit 8 2", "fruit may pears 1", "fruit\n" + FRUIT):
                self.assert_refused(NoRow, word + " " + rest)
                self.assert_refused(NoRow, word + "\n" + rest)

    def test_a_word_too_few_or_too_many(self):
        for text in DEEDS + ["table other", "read"]:
            words = text.split(" ")
            behind = "\n" + FRUIT if words[0] in ("table", "read") else ""
            for many in range(1, len(words)):
                self.assert_refused(NoRow, " ".join(words[:many]) + behind)
            for more in ("x", "1", "fruit", words[-1]):
                self.assert_refused(NoRow, text + " " + more + behind)
                self.assert_refused(NoRow, more + " " + text + behind)

    def test_two_blanks_side_by_side(self):
        for text in DEEDS + ["table other"]:
            behind = "\n" + FRUIT if text == "table other" else ""
            words = text.split(" ")
            for at in range(1, len(words)):
                self.assert_refused(NoRow, " ".join(words[:at]) + "  " + " ".join(words[at:]) + behind)

    def test_a_blank_at_an_end(self):
        for text in DEEDS:
            self.assert_refused(NoRow, text + " ")
            self.assert_refused(NoRow, " " + text)
        for text in ("table other", "read"):
            self.assert_refused(NoRow, text + " \n" + FRUIT)
            self.assert_refused(NoRow, " " + text + "\n" + FRUIT)
        for text in (" ", "  ", "show ", "drop ", "table \n" + FRUIT, "cut fruit ", "cut  may", "draw bars fruit 8"):
            self.assert_refused(NoRow, text)

    def test_a_row_behind_one_that_takes_none(self):
        for text in DEEDS:
            for behind in ("", "\n", "show fruit", FRUIT, " "):
                self.assert_refused(NoRow, text + "\n" + behind)

    def test_none_behind_one_that_takes_some(self):
        self.assert_refused(NoRow, "table other")
        self.assert_refused(NoRow, "table fruit")
        self.assert_refused(NoRow, "read")

    def test_line_feeds_alone(self):
        for text in ("\n", "\n\n", "\nshow fruit", "\n" + FRUIT, "show\nfruit"):
            self.assert_refused(NoRow, text)

    def test_a_word_in_the_place_of_a_name_that_is_none(self):
        for word in NO_NAMES:
            for text in ("show {}", "drop {}", "put {} may pears 1", "put fruit {} pears 1", "put fruit may {} 1", "cut {} may",
                         "cut fruit {}", "draw bars {} 8 2", "left bars {} 8 2", "table {}\n" + FRUIT):
                self.assert_refused(NoRow, text.replace("{}", word))

    def test_a_kind_that_is_none(self):
        for kind in ("", "bar", "Bars", "pies", "x", "fruit", "barsx", "BARS", "1", "bars,lines"):
            self.assert_refused(NoRow, f"draw {kind} fruit 8 2")
            self.assert_refused(NoRow, f"left {kind} fruit 8 2")

    def test_it_goes_ahead_of_all_others(self):
        # Each of these is also refused for something behind it.
        for text in ("put nosuch may PEARS x", "put nosuch may pears x y", "draw pies nosuch x x", "draw bars nosuch x", "show nosuch\n",
                     "table Other\nx", "cut nosuch May", "read x\nx", "put fruit nosuch Pears x", "left bars nosuch 99"):
            self.assert_refused(NoRow, text)


class TestOtherRefusals(DeskCase):
    def test_a_name_by_which_no_table_stands(self):
        for name in ("nosuch", "x", "may", "apples", "bars", "table", "abcdefghij"):
            for text in DEEDS:
                self.assert_refused(NoName, text.replace("fruit", name), name=name)

    def test_it_goes_ahead_of_rows_series_numbers_and_sizes(self):
        for text in ("put nosuch other other x", "cut nosuch other", "draw bars nosuch x x", "draw stacks nosuch 99 99",
                     "left shares nosuch  2", "put nosuch may pears 1234567890123", "draw bars nosuch 8 "):
            self.assert_refused(NoName, text, name="nosuch")

    def test_a_row_that_the_table_has_not(self):
        for row in ("august", "a", "fruit", "apples", "mays", "ma", "series"):
            self.assert_refused(NoName, f"put fruit {row} pears 1", name=row)
            self.assert_refused(NoName, f"cut fruit {row}", name=row)
            self.assert_refused(NoName, f"put fruit {row} nosuch x", name=row)
            self.assert_refused(NoName, f"put fruit {row} pears x", name=row)

    def test_a_series_that_the_table_has_not(self):
        for series in ("figs", "s", "fruit", "may", "apple", "series"):
            self.assert_refused(NoName, f"put fruit may {series} 1", name=series)
            self.assert_refused(NoName, f"put fruit may {series} x", name=series)
            self.assert_refused(NoName, f"put fruit may {series} 1234567890123", name=series)
            self.assert_refused(NoName, f"put fruit may {series} ", name=series)

    def test_a_word_that_is_no_number(self):
        for word in NO_NUMBERS:
            self.assert_refused(NoNumber, "put fruit may pears " + word)

    def test_a_word_that_is_no_whole_number(self):
        for word in NO_NUMBERS + ["0.5", "8.5", "-2.5", "8.000000000001"]:
            for deed, kind in itertools.product(("draw", "left"), KINDS):
                self.assert_refused(NoNumber, f"{deed} {kind} fruit {word} 2")
                self.assert_refused(NoNumber, f"{deed} {kind} fruit 8 {word}")
                # ahead of sizes and of numbers below 0
                self.assert_refused(NoNumber, f"{deed} {kind} fruit 99 {word}")
                self.assert_refused(NoNumber, f"{deed} {kind} fruit {word} 99")
                self.assert_refused(NoNumber, f"{deed} {kind} signed 8 {word}")

    def test_no_table_so_made(self):
        for at, row in enumerate(("may", "june", "july")):
            for word in ("1000000000000", "-1000000000000", "0.0000001", "1.1234567", "999999999999999", "0.000000000001"):
                self.assert_refused(NoTable, f"put fruit {row} pears {word}", row=at)
                self.assert_refused(NoTable, f"put fruit {row} apples {word}", row=at)

    def test_the_only_row_cut(self):
        self.assert_said("table other\nseries x\nq 1.5", "ok")
        self.assert_refused(NoTable, "cut other q", row=0)
        self.assert_refused(NoName, "cut other x", name="x")

    def test_no_text_of_a_table(self):
        for behind, row in [
            ("", 0), ("x", 0), ("series", 0), ("series ", 0), ("series A", 0), ("Series a\nb 1", 0), (" series a\nb 1", 0),
            ("series a", 1), ("series a\n", 1), ("series a\nb", 1), ("series a\nb 1\n", 2), ("series a\nb 1\nb 2", 2),
            ("series a\nb 1 ", 1), ("series a\nb  1", 1), ("series a\nb 1 2", 1), ("series a\nb 01", 1), ("\nseries a\nb 1", 0),
            ("series a\nb 1\nc 1234567890123\nd x", 2), ("series a a\nb 1 1", 0), ("series a b c d e\nb 1 1 1 1 1", 0),
            ("series s\n" + "\n".join(f"{letter} 1" for letter in "abcdefghijklm"), 13), ("\n", 0), ("series a\n\nb 1", 1),
        ]:
            self.assert_refused(NoText, "table fruit\n" + behind, row=row)
            self.assert_refused(NoText, "table other\n" + behind, row=row)

    def test_no_size(self):
        for deed, kind in itertools.product(("draw", "left"), KINDS):
            for size in (1, 41, 0, -1, 99, 999999999999999, -999999999999999):
                self.assert_refused(NoSize, f"{deed} {kind} fruit {size} 2", size=size)
                self.assert_refused(NoSize, f"{deed} {kind} fruit {size} 77", size=size)
                self.assert_refused(NoSize, f"{deed} {kind} signed {size} 2", size=size)
            for size in (0, 7, -1, 99, 999999999999999, -999999999999999):
                self.assert_refused(NoSize, f"{deed} {kind} fruit 8 {size}", size=size)
                self.assert_refused(NoSize, f"{deed} {kind} signed 8 {size}", size=size)

    def test_a_number_below_0(self):
        self.assert_said("put fruit june pears -0.5", "ok")
        self.assert_said("put fruit july apples -7", "ok")
        for deed, kind in itertools.product(("draw", "left"), ("stacks", "shares")):
            self.assert_refused(Below, f"{deed} {kind} signed 8 2", row="a", series="s")
            self.assert_refused(Below, f"{deed} {kind} fruit 8 2", row="june", series="pears")
        for deed, kind in itertools.product(("draw", "left"), ("bars", "lines")):
            self.assertIs(type(self.desk.say(f"{deed} {kind} fruit 8 2")), str)

    def test_no_sheet(self):
        sheet = self.desk.say("draw bars fruit 8 2")
        for behind in ("", "x", "\n", "show fruit", FRUIT, sheet + "\n", "\n" + sheet, sheet + " ", " " + sheet, sheet[1:], sheet[:-1],
                       sheet.replace("|", "!"), sheet.replace("# apples", "+ apples"), sheet.replace("bars", "lines"), "read\n" + sheet):
            if behind != sheet[:-1]:
                self.assert_refused(NoSheet, "read\n" + behind)
        self.assertNotEqual(self.desk.say("read\n" + sheet[:-1]), "")


if __name__ == "__main__":
    unittest.main()
