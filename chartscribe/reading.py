"""Sheets read again: the plan of a sheet, and where the numbers lie that were drawn."""

from chartscribe.drawings import is_height, is_width
from chartscribe.errors import NoNumber, NoSheet
from chartscribe.fractions import fraction
from chartscribe.numbers import read_number, read_whole
from chartscribe.plans import count_lanes, is_plan, starts_of
from chartscribe.scales import scale_over
from chartscribe.sheets import AXIS, BLANK, GROUND, SIGNS, sheet_of
from chartscribe.tables import are_series


def read_head(line):
    """The kind and the width that a sheet's first text tells."""
    kind, blank, width = line.partition(BLANK)
    return (kind, read_whole(width))


def count_levels(lines):
    """How many texts behind the first one show a level: those with an axis, up to the first without."""
    many = 0
    for line in lines[1:]:
        if AXIS not in line:
            return many
        many += 1
    return many


def read_marks(labels):
    """The marks that stand ahead of the axis, from the lowest level up."""
    texts = [label.strip(BLANK) for label in labels]
    return [read_number(text) for text in texts if text != ""]


def levels_with(picture, column, sign):
    """The levels, rising, at which a sign stands in a column."""
    return [level for level, row in enumerate(picture) if row[column] == sign]


def read_ground(picture):
    """The level of the ground; 0 where there is none."""
    grounds = levels_with(picture, 0, GROUND)
    return grounds[0] if grounds else 0


def read_bar(picture, ground, column, sign):
    """The level of a bar."""
    found = levels_with(picture, column, sign)
    if not found:
        return ground
    return found[0] if found[0] < ground else found[-1]


def read_line(picture, column, sign):
    """The level of a line in a lane; below all levels where it has none."""
    found = levels_with(picture, column, sign)
    return found[0] if found else -1


def read_pieces(picture, column, series):
    """The levels at which the pieces of a band end."""
    told = []
    end = 0
    for sign in SIGNS[:series]:
        found = levels_with(picture, column, sign)
        end = found[-1] if found else end
        told.append(end)
    return told


def read_band(kind, width, picture, start, series):
    """The levels of the band with this first column."""
    if kind == "lines":
        return [read_line(picture, start + at * width, SIGNS[at]) for at in range(series)]
    if kind == "bars":
        ground = read_ground(picture)
        return [read_bar(picture, ground, start + at * width, SIGNS[at]) for at in range(series)]
    return read_pieces(picture, start, series)


def read_names(line, begins):
    """For each place the word that begins there, or None."""
    told = []
    for begin in begins:
        name = line[begin:].partition(BLANK)[0]
        # Ahead of a name there is a blank; else this is the end of a longer one.
        told.append(name if name != "" and line[begin - 1] == BLANK else None)
    return told


def plan_from(lines):
    """What seems to be the plan of these texts; whether it is, its own sheet will say."""
    kind, width = read_head(lines[0])
    many = count_levels(lines)
    series = [line[2:] for line in lines[many + 2:]]
    if not is_width(width) or not is_height(many - 1) or not are_series(series):
        raise NoSheet("no sheet has these sizes or series")
    shown = lines[many:0:-1]
    long = shown[0].find(AXIS)
    marks = read_marks([line[:long] for line in shown])
    rows = [line[long + 1:] for line in shown]
    columns = max([len(row) for row in rows])
    picture = [row.ljust(columns) for row in rows]
    bands = (columns + 1) // (count_lanes(kind, len(series)) * width + 1)
    starts = starts_of(kind, width, bands, len(series))
    levels = [read_band(kind, width, picture, start, len(series)) for start in starts]
    names = read_names(lines[many + 1], [long + 1 + start for start in starts])
    return (kind, width, many - 1, marks, levels, names, series)


def read_sheet(lines):
    """The plan whose sheet a list of texts is."""
    if not lines or not all(isinstance(line, str) for line in lines):
        raise NoSheet("a sheet is a list of texts")
    try:
        plan = plan_from(lines)
    except NoNumber:
        raise NoSheet("a width or a mark is no number") from None
    # A sheet shows all of its plan, so no other plan than this one can have these texts.
    if not is_plan(plan) or sheet_of(plan) != lines:
        raise NoSheet("this is no plan's sheet")
    return plan


def share_stretches(rows, band):
    """The stretches of a band of shares."""
    told = []
    ahead = 0
    for level in band:
        part = level - ahead
        told.append((fraction(100 * (part - 1), rows), fraction(100 * (part + 1), rows)))
        ahead = level
    return told


def stretches_of(plan):
    """For each band a list with the stretch in which what is drawn lies, for each of the series."""
    kind, width, rows, marks, levels, names, series = plan
    if kind == "shares":
        return [share_stretches(rows, band) for band in levels]
    scale = scale_over(marks, rows)
    return [[scale.stretch(level) for level in band] for band in levels]
