"""Drawings: a table as bars, stacks, shares or lines, with its marks and levels."""

from chartscribe.dealing import dealt
from chartscribe.errors import Below, NoSize
from chartscribe.fractions import is_less, plus
from chartscribe.marks import marks_of
from chartscribe.scales import scale_over

KINDS = ("bars", "stacks", "shares", "lines")
LEAST_HEIGHT = 2
MOST_HEIGHT = 40
LEAST_WIDTH = 1
MOST_WIDTH = 6
NOUGHT = (0, 1)
HUNDRED = (100, 1)


def is_height(rows):
    """Whether a drawing may have so many rows."""
    return LEAST_HEIGHT <= rows <= MOST_HEIGHT


def is_width(width):
    """Whether a lane may have so many columns."""
    return LEAST_WIDTH <= width <= MOST_WIDTH


def most_marks(rows):
    """How many marks a drawing of so many rows has at most."""
    return rows // 2 + 2


def numbers_of(table):
    """All numbers of a table, row by row."""
    return [one for name, numbers in table[1] for one in numbers]


def least_of(numbers):
    """The least of one or more fractions."""
    told = numbers[0]
    for one in numbers:
        if is_less(one, told):
            told = one
    return told


def greatest_of(numbers):
    """The greatest of one or more fractions."""
    told = numbers[0]
    for one in numbers:
        if is_less(told, one):
            told = one
    return told


def sums_of(numbers):
    """For each of the fractions, the sum up to it."""
    total = NOUGHT
    told = []
    for one in numbers:
        total = plus(total, one)
        told.append(total)
    return told


def ends_of(parts):
    """For each of the whole numbers, the sum up to it."""
    return [sum(parts[:at]) for at in range(1, len(parts) + 1)]


def refuse_below(table):
    """Refuses a table with a number below 0."""
    series, rows = table
    for row, numbers in rows:
        for name, one in zip(series, numbers):
            if one[0] < 0:
                raise Below(row, name)


class Drawing:
    """A table that is drawn; only the four kinds under it are made."""

    def __init__(self, table, rows, width):
        if not is_height(rows):
            raise NoSize(rows)
        if not is_width(width):
            raise NoSize(width)
        self.table = table
        self.rows = rows
        self.width = width

    def kind(self):
        """The text that names the kind."""
        raise NotImplementedError("only the four kinds are made")

    def marks(self):
        """The marks beside the picture, rising."""
        raise NotImplementedError("only the four kinds are made")

    def scale(self):
        """The scale from the first mark to the last one."""
        return scale_over(self.marks(), self.rows)

    def levels(self):
        """For each row of the table a list with the level of each of its numbers."""
        scale = self.scale()
        return [[scale.level(one) for one in numbers] for name, numbers in self.table[1]]

    def base(self):
        """The level on which the picture stands, or None."""
        return 0


class Bars(Drawing):
    """For each number a bar of its own, up or down from 0."""

    def kind(self):
        """The text that names the kind."""
        return "bars"

    def marks(self):
        """The marks for 0 and all numbers."""
        numbers = [NOUGHT] + numbers_of(self.table)
        return marks_of(least_of(numbers), greatest_of(numbers), most_marks(self.rows))

    def scale(self):
        """The scale from the first mark to the last one."""
        return super().scale()

    def levels(self):
        """The level of each number."""
        return super().levels()

    def base(self):
        """The level of 0."""
        return self.scale().level(NOUGHT)


class Stacks(Drawing):
    """For each row its numbers one on the other."""

    def __init__(self, table, rows, width):
        super().__init__(table, rows, width)
        refuse_below(table)

    def kind(self):
        """The text that names the kind."""
        return "stacks"

    def marks(self):
        """The marks from 0 to the greatest sum of a row."""
        sums = [sums_of(numbers)[-1] for name, numbers in self.table[1]]
        return marks_of(NOUGHT, greatest_of(sums), most_marks(self.rows))

    def scale(self):
        """The scale from the first mark to the last one."""
        return super().scale()

    def levels(self):
        """The level of each sum so far."""
        scale = self.scale()
        return [[scale.level(one) for one in sums_of(numbers)] for name, numbers in self.table[1]]

    def base(self):
        """The level of the ground."""
        return super().base()


class Shares(Drawing):
    """For each row its numbers as parts of all levels."""

    def __init__(self, table, rows, width):
        super().__init__(table, rows, width)
        refuse_below(table)

    def kind(self):
        """The text that names the kind."""
        return "shares"

    def marks(self):
        """The marks from 0 to 100, whatever the numbers."""
        return marks_of(NOUGHT, HUNDRED, most_marks(self.rows))

    def scale(self):
        """The scale from the first mark to the last one."""
        return super().scale()

    def levels(self):
        """The sums so far of what is dealt."""
        return [ends_of(dealt(numbers, self.rows)) for name, numbers in self.table[1]]

    def base(self):
        """The level of the ground."""
        return super().base()


class Lines(Drawing):
    """For each of the series a line of steps from row to row."""

    def kind(self):
        """The text that names the kind."""
        return "lines"

    def marks(self):
        """The marks from the least number to the greatest."""
        numbers = numbers_of(self.table)
        return marks_of(least_of(numbers), greatest_of(numbers), most_marks(self.rows))

    def scale(self):
        """The scale from the first mark to the last one."""
        return super().scale()

    def levels(self):
        """The level of each number."""
        return super().levels()

    def base(self):
        """Lines stand on no level."""
        return None
