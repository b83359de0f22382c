"""The desk: tables kept by names, and asked by rows of words."""

from chartscribe.drawings import KINDS, Bars, Lines, Shares, Stacks
from chartscribe.errors import NoName, NoRow
from chartscribe.numbers import read_number, read_whole
from chartscribe.plans import left_out, plan_of
from chartscribe.reading import read_sheet
from chartscribe.sheets import sheet_of
from chartscribe.tables import is_name, row_names, table_of
from chartscribe.tabletexts import read_table, show_table

# What stands behind the first word of each first row.
FORMS = {
    "table": ("name",),
    "show": ("name",),
    "drop": ("name",),
    "put": ("name", "name", "name", "number"),
    "cut": ("name", "name"),
    "draw": ("kind", "name", "number", "number"),
    "left": ("kind", "name", "number", "number"),
    "read": (),
}
# The first rows that take further rows behind them.
WITH_ROWS = ("table", "read")
DONE = "ok"
NO_NAME = "-"


def fits(word, place):
    """Whether a word may stand in a place; numbers are asked for later."""
    if place == "name":
        return is_name(word)
    return place == "number" or word in KINDS


def is_form(words, rows):
    """Whether the words are a first row that takes such rows behind it."""
    if words[0] not in FORMS or len(words) != len(FORMS[words[0]]) + 1:
        return False
    if (words[0] in WITH_ROWS) != (len(rows) > 0):
        return False
    return all([fits(word, place) for word, place in zip(words[1:], FORMS[words[0]])])


def parted(text):
    """The words of the first row, and the rows behind it."""
    if not isinstance(text, str):
        raise NoRow("the desk is told a text")
    rows = text.split("\n")
    words = rows[0].split(" ")
    if not is_form(words, rows[1:]):
        raise NoRow("the desk has no such row")
    return (words, rows[1:])


def refuse_unknown(name, names):
    """Refuses a name that is none of these."""
    if name not in names:
        raise NoName(name)


def with_number(table, row, name, word):
    """The table that has the number of a word at a row and one of the series."""
    series = table[0]
    refuse_unknown(row, row_names(table))
    refuse_unknown(name, series)
    number = read_number(word)
    rows = []
    for other, numbers in table[1]:
        copied = list(numbers)
        if other == row:
            copied[series.index(name)] = number
        rows.append((other, copied))
    return table_of(list(series), rows)


def without_row(table, row):
    """The table that lacks a row."""
    refuse_unknown(row, row_names(table))
    return table_of(list(table[0]), [(name, list(numbers)) for name, numbers in table[1] if name != row])


def drawing_of(kind, table, rows, width):
    """The drawing of a kind, its sizes given as words."""
    many = read_whole(rows)
    wide = read_whole(width)
    if kind == "bars":
        return Bars(table, many, wide)
    if kind == "stacks":
        return Stacks(table, many, wide)
    if kind == "shares":
        return Shares(table, many, wide)
    return Lines(table, many, wide)


def told_levels(lines):
    """What is read from a sheet's texts: for each band its name and its levels."""
    kind, width, rows, marks, levels, names, series = read_sheet(lines)
    told = []
    for name, band in zip(names, levels):
        words = [str(level) for level in band]
        told.append(" ".join([NO_NAME if name is None else name, *words]))
    return "\n".join(told)


class Desk:
    """Tables by their names."""

    def __init__(self):
        self.tables = {}

    def say(self, text):
        """The answer to a text: a first row of words, for some with rows behind it."""
        words, rows = parted(text)
        if words[0] == "read":
            return told_levels(rows)
        if words[0] == "table":
            self.tables[words[1]] = read_table("\n".join(rows))
            return DONE
        if words[0] in ("draw", "left"):
            return self.drawn(words)
        return self.kept(words)

    def table_by(self, name):
        """The table that stands by a name."""
        refuse_unknown(name, self.tables)
        return self.tables[name]

    def drawn(self, words):
        """The answer to a row that asks for a drawing."""
        deed, kind, name, rows, width = words
        drawing = drawing_of(kind, self.table_by(name), rows, width)
        if deed == "draw":
            return "\n".join(sheet_of(plan_of(drawing)))
        return " ".join(left_out(drawing))

    def kept(self, words):
        """The answer to a row that shows or changes a table that stands."""
        deed, name, *others = words
        table = self.table_by(name)
        if deed == "show":
            return show_table(table)
        if deed == "drop":
            del self.tables[name]
        elif deed == "cut":
            self.tables[name] = without_row(table, others[0])
        else:
            row, series, word = others
            self.tables[name] = with_number(table, row, series, word)
        return DONE
