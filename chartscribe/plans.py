"""Plans: all that a sheet shows, as a tuple (kind, width, rows, marks, levels, names, series)."""

from chartscribe.drawings import HUNDRED, KINDS, NOUGHT, is_height, is_width, most_marks
from chartscribe.fractions import less, over
from chartscribe.marks import is_round
from chartscribe.numbers import is_written
from chartscribe.placing import next_free, placed
from chartscribe.tables import MOST_ROWS, are_series, is_name, row_names

# The kinds whose bands have a lane for each of the series.
SIDE_BY_SIDE = ("bars", "lines")


def count_lanes(kind, series):
    """How many lanes a band has."""
    return series if kind in SIDE_BY_SIDE else 1


def starts_of(kind, width, bands, series):
    """The list of the bands' first columns."""
    band_width = count_lanes(kind, series) * width
    return [at * (band_width + 1) for at in range(bands)]


def placed_names(drawing):
    """The names of a drawing's rows, None for those that find no room."""
    names = row_names(drawing.table)
    starts = starts_of(drawing.kind(), drawing.width, len(names), len(drawing.table[0]))
    return placed(names, starts)


def plan_of(drawing):
    """The plan of a drawing."""
    names = placed_names(drawing)
    series = list(drawing.table[0])
    return (drawing.kind(), drawing.width, drawing.rows, drawing.marks(), drawing.levels(), names, series)


def left_out(drawing):
    """The names that find no room, in the order of the rows."""
    kept = placed_names(drawing)
    return [name for name in row_names(drawing.table) if name not in kept]


def are_multiples(marks):
    """Whether these are neighbouring multiples of one round fraction, rising."""
    step = less(marks[1], marks[0])
    if not is_round(step) or over(marks[0], step)[1] != 1:
        return False
    return all([less(after, ahead) == step for ahead, after in zip(marks, marks[1:])])


def have_ends(kind, marks):
    """Whether the marks hold 0, or begin and end, as the kind asks."""
    if kind == "bars":
        return NOUGHT in marks
    if kind == "stacks":
        return marks[0] == NOUGHT
    if kind == "shares":
        return marks[0] == NOUGHT and marks[-1] == HUNDRED
    return True


def are_marks(kind, rows, marks):
    """Whether these are marks for a picture of this kind with so many rows."""
    if not 2 <= len(marks) <= most_marks(rows):
        return False
    # Asked first: what is written is small, so the reckoning behind it is short.
    if not all(is_written(mark) for mark in marks):
        return False
    return are_multiples(marks) and have_ends(kind, marks)


def is_band(kind, rows, series, band):
    """Whether these are the levels of a band, series being how many there are."""
    if len(band) != series or not all(0 <= level <= rows for level in band):
        return False
    if kind in SIDE_BY_SIDE:
        return True
    if kind == "shares" and band[-1] not in (0, rows):
        return False
    return band == sorted(band)


def are_bands(kind, rows, series, levels):
    """Whether these are the levels of one to twelve bands."""
    return 1 <= len(levels) <= MOST_ROWS and all(is_band(kind, rows, series, band) for band in levels)


def do_touch(names, starts):
    """Whether one of the names touches another one; None stands for no name."""
    free = 0
    for name, start in zip(names, starts):
        if name is not None:
            if start < free:
                return True
            free = next_free(name, start)
    return False


def are_names(names, starts):
    """Whether these are the names of bands with these first columns."""
    given = [name for name in names if name is not None]
    if len(names) != len(starts) or not all(is_name(name) for name in given):
        return False
    return len(set(given)) == len(given) and not do_touch(names, starts)


def is_plan(thing):
    """Whether a tuple of seven things is a plan."""
    kind, width, rows, marks, levels, names, series = thing
    if kind not in KINDS or not is_width(width) or not is_height(rows):
        return False
    if not are_marks(kind, rows, marks) or not are_series(series):
        return False
    if not are_bands(kind, rows, len(series), levels):
        return False
    return are_names(names, starts_of(kind, width, len(levels), len(series)))
