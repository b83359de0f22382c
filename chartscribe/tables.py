"""Tables: tuples (series, rows) of names and numbers."""

from chartscribe.errors import NoTable
from chartscribe.fractions import is_fraction

LETTERS = "abcdefghijklmnopqrstuvwxyz"
LONGEST_NAME = 10
MOST_SERIES = 4
MOST_ROWS = 12
# The least number that has too many figures ahead of the point, and one in units of the last place behind it.
TOO_GREAT = 10 ** 12
UNITS = 10 ** 6


def is_name(text):
    """Whether a thing is a text of one to ten small letters."""
    return isinstance(text, str) and 1 <= len(text) <= LONGEST_NAME and all(sign in LETTERS for sign in text)


def are_series(names):
    """Whether these are one to four unlike names."""
    if not 1 <= len(names) <= MOST_SERIES or not all(is_name(name) for name in names):
        return False
    return len(set(names)) == len(names)


def is_within(thing):
    """Whether a thing is a fraction that is written within a table's bounds."""
    if not is_fraction(thing):
        return False
    top, bottom = thing
    return UNITS % bottom == 0 and abs(top) < TOO_GREAT * bottom


def is_row(name, numbers, many, ahead):
    """Whether a name and its numbers may stand in a row behind those of the names ahead."""
    if not is_name(name) or name in ahead or len(numbers) != many:
        return False
    return all(is_within(one) for one in numbers)


def table_of(series, rows):
    """The table of a list of names and a list of tuples (name, list of fractions)."""
    if not are_series(series):
        raise NoTable(-1)
    if not 1 <= len(rows) <= MOST_ROWS:
        raise NoTable(len(rows))
    ahead = []
    kept = []
    for at, (name, numbers) in enumerate(rows):
        if not is_row(name, numbers, len(series), ahead):
            raise NoTable(at)
        ahead.append(name)
        kept.append((name, tuple(numbers)))
    return (tuple(series), tuple(kept))


def row_names(table):
    """The names of a table's rows."""
    return [name for name, numbers in table[1]]
