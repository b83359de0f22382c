"""Plans of every kind for the tests, also such that no drawing has, and their sheets painted sign by sign."""

import math
import random
from fractions import Fraction

KINDS = ("bars", "stacks", "shares", "lines")
SIGNS = "#+ox"
WORDS = ["a", "b", "ox", "may", "x", "o", "june", "april", "bars", "abcdefghij", "zzzzzzzzzz", "series", "october", "lines",
         "ooooo", "xo", "january", "march", "figs", "qwerty"]
STEPS = [Fraction(text) for text in [
    "1", "2", "5", "10", "0.1", "0.2", "0.05", "50", "200", "1000", "0.000001", "0.000000000001", "0.000000000005",
    "1000000000000", "50000000000000",
]]
# How many steps from 0 the first mark of lines may be.
FAR = [0, 1, 3, -1, -2, -7, 10, 99, -100, 12345, -98765, 10 ** 14 - 50, 10 ** 15 - 30, 30 - 10 ** 15, 123456789012345 * 10 ** 12]


def pair(worth):
    return (worth.numerator, worth.denominator)


def is_written(worth):
    return abs(worth) < 10 ** 15 and 10 ** 12 % worth.denominator == 0


def made_marks(chance, kind, rows):
    """Some marks that [16] lets."""
    most = rows // 2 + 2
    while True:
        many = chance.choice((2, most, chance.randint(2, most)))
        step = chance.choice(STEPS)
        first = {"bars": -chance.randrange(many), "stacks": 0, "shares": 0, "lines": chance.choice(FAR)}[kind]
        if kind == "shares":
            step = Fraction(chance.choice((1, 2, 5, 10, 20, 50, 100)))
            many = int(100 / step) + 1
        worths = [(first + at) * step for at in range(many)]
        if many <= most and all(is_written(worth) for worth in worths):
            return [pair(worth) for worth in worths]


def made_band(chance, kind, rows, series, ground):
    """Some levels that [16] lets, often at the ends and on the ground."""
    levels = [chance.choice((0, rows, ground, chance.randint(0, rows))) for at in range(series)]
    if kind in ("bars", "lines"):
        return levels
    if kind == "shares":
        levels[-1] = rows if any(levels) else 0
    return sorted(levels)


def made_names(chance, gap, bands):
    """Some names that don't touch, and None."""
    words = chance.sample(WORDS, bands)
    names, free = [], 0
    for at, word in enumerate(words):
        word = word[:chance.choice((1, gap - 1, 10))] if gap > 1 else word
        fits = at * gap >= free and word not in names and chance.randrange(5) > 0
        names.append(word if fits else None)
        free = at * gap + len(word) + 1 if fits else free
    return names


def made_plan(chance, kind):
    width, series = chance.randint(1, 6), chance.randint(1, 4)
    rows = chance.choice((2, 3, 4, 5, 8, 12, 39, 40, chance.randint(2, 40)))
    bands = chance.choice((1, 2, 12, chance.randint(1, 12)))
    marks = made_marks(chance, kind, rows)
    ground = level_by_hand(marks, rows, 0) if kind == "bars" else 0
    levels = [made_band(chance, kind, rows, series, ground) for at in range(bands)]
    gap = width * (series if kind in ("bars", "lines") else 1) + 1
    names = chance.choice((made_names(chance, gap, bands), made_names(chance, gap, bands), [None] * bands))
    return (kind, width, rows, marks, levels, names, chance.sample(WORDS, series))


def made_plans(seed, many):
    """So many plans of each kind."""
    chance = random.Random(seed)
    return [made_plan(chance, kind) for turn in range(many) for kind in KINDS]


def level_by_hand(marks, rows, worth):
    first, last = Fraction(*marks[0]), Fraction(*marks[-1])
    return math.floor((worth - first) * rows / (last - first) + Fraction(1, 2))


def text_by_hand(one):
    """A number as [5] writes it, by whole numbers alone."""
    units = abs(one[0]) * 10 ** 12 // one[1]
    ahead, behind = divmod(units, 10 ** 12)
    text = f"{ahead}.{behind:012d}".rstrip("0").removesuffix(".")
    return "-" + text if one[0] < 0 else text


def painted(plan):
    """The picture as a dict of (level, column): sign, painted as [19] tells."""
    kind, width, rows, marks, levels, names, series = plan
    cells = {}
    lanes = len(series) if kind in ("bars", "lines") else 1
    gap = lanes * width + 1
    ground = {"bars": level_by_hand(marks, rows, 0), "lines": None}.get(kind, 0)

    def paint(band, lane, level, sign):
        for column in range(width):
            place = (level, band * gap + lane * width + column)
            assert place not in cells
            cells[place] = sign
    if ground is not None:
        for column in range(len(levels) * gap - 1):
            cells[ground, column] = "-"
    for band, owns in enumerate(levels):
        for at, own in enumerate(owns):
            if kind == "bars":
                for level in [*range(ground + 1, own + 1), *range(own, ground)]:
                    paint(band, at, level, SIGNS[at])
            elif kind == "lines":
                paint(band, at, own, SIGNS[at])
                if band > 0:
                    ahead = levels[band - 1][at]
                    for level in [*range(ahead + 1, own), *range(own + 1, ahead)]:
                        paint(band, at, level, "|")
            else:
                for level in range((owns[at - 1] if at > 0 else 0) + 1, own + 1):
                    paint(band, 0, level, SIGNS[at])
    return cells


def sheet_by_hand(plan):
    """The sheet of a plan, as [17] to [19] tell it."""
    kind, width, rows, marks, levels, names, series = plan
    cells = painted(plan)
    columns = 1 + max(column for level, column in cells)
    long = max(len(text_by_hand(mark)) for mark in marks)
    labels = {level_by_hand(marks, rows, Fraction(*mark)): text_by_hand(mark) for mark in marks}
    assert len(labels) == len(marks)
    lines = [f"{kind} {width}"]
    for level in range(rows, -1, -1):
        label = labels.get(level, "")
        picture = "".join(cells.get((level, column), " ") for column in range(columns))
        lines.append((" " * (long - len(label)) + label + "|" + picture).rstrip(" "))
    below = [" "] * (long + 1 + columns + 20)
    gap = width * (len(series) if kind in ("bars", "lines") else 1) + 1
    for at, name in enumerate(names):
        for place, letter in enumerate(name or ""):
            below[long + 1 + at * gap + place] = letter
    lines.append("".join(below).rstrip(" "))
    return lines + [f"{sign} {name}" for sign, name in zip(SIGNS, series)]
