"""Tables as they are written: rows parted by line feeds, words parted by one blank."""

from chartscribe.errors import NoNumber, NoTable, NoText
from chartscribe.numbers import read_number, show_number
from chartscribe.tables import are_series, table_of

FIRST_WORD = "series"


def show_row(name, numbers):
    """The text of one row."""
    words = [show_number(one) for one in numbers]
    return " ".join([name, *words])


def show_table(table):
    """The text that writes a table."""
    series, rows = table
    lines = [" ".join([FIRST_WORD, *series])]
    for name, numbers in rows:
        lines.append(show_row(name, numbers))
    return "\n".join(lines)


def read_series(line):
    """The series' names that a first row writes."""
    words = line.split(" ")
    if words[0] != FIRST_WORD or not are_series(words[1:]):
        raise NoText(0)
    return words[1:]


def read_row(line):
    """The name and the numbers that a row writes; whether they fit a table is not asked."""
    words = line.split(" ")
    return (words[0], [read_number(word) for word in words[1:]])


def read_table(text):
    """The table that a text writes."""
    if not isinstance(text, str):
        raise NoText(0)
    lines = text.split("\n")
    series = read_series(lines[0])
    rows = []
    table = None
    for at, line in enumerate(lines[1:], start=1):
        # The rows ahead make a table, so what is refused here is this row.
        try:
            rows.append(read_row(line))
            table = table_of(series, rows)
        except (NoNumber, NoTable):
            raise NoText(at) from None
    if table is None:
        raise NoText(1)
    return table
