"""Scales: at which level a number stands, and which numbers stand at a level."""

from chartscribe.fractions import fraction, less, nearest, over, plus, times


class Scale:
    """Levels from a low, level 0, to a high, level rows."""

    def __init__(self, low, high, rows):
        self.low = low
        self.high = high
        self.rows = rows

    def at_levels(self, levels):
        """The number that lies so many levels, a fraction, above the low."""
        return plus(self.low, over(times(levels, less(self.high, self.low)), (self.rows, 1)))

    def number(self, level):
        """The number of a level."""
        return self.at_levels((level, 1))

    def level(self, number):
        """The level of a number."""
        return nearest(over(times(less(number, self.low), (self.rows, 1)), less(self.high, self.low)))

    def stretch(self, level):
        """The tuple (from, to) of which the numbers from the first on, below the second have this level."""
        # Halfway between two levels a number has the greater one.
        return (self.at_levels(fraction(2 * level - 1, 2)), self.at_levels(fraction(2 * level + 1, 2)))


def scale_over(marks, rows):
    """The scale from the first of the marks to the last one."""
    return Scale(marks[0], marks[-1], rows)
