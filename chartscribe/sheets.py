"""Sheets: the texts that show a plan."""

from chartscribe.drawings import NOUGHT
from chartscribe.numbers import show_number
from chartscribe.plans import starts_of
from chartscribe.scales import scale_over

SIGNS = "#+ox"
AXIS = "|"
STEP = "|"
GROUND = "-"
BLANK = " "


def labels_of(marks, rows):
    """For each level, from 0 up, what stands ahead of the axis."""
    scale = scale_over(marks, rows)
    texts = [show_number(mark) for mark in marks]
    long = max([len(text) for text in texts])
    labels = [BLANK * long for level in range(rows + 1)]
    for mark, text in zip(marks, texts):
        labels[scale.level(mark)] = text.rjust(long)
    return labels


def ground_of(kind, marks, rows):
    """The level at which the picture has its ground, or None for lines."""
    if kind == "bars":
        return scale_over(marks, rows).level(NOUGHT)
    return None if kind == "lines" else 0


def bar_sign(sign, own, ground, level):
    """What stands at a level in the lane of a bar."""
    return sign if ground < level <= own or own <= level < ground else BLANK


def line_sign(sign, own, ahead, level):
    """What stands at a level in the lane of a line that comes from the level ahead."""
    if level == own:
        return sign
    return STEP if min(own, ahead) < level < max(own, ahead) else BLANK


def piece_sign(band, level):
    """What stands at a level in a band of pieces one on the other."""
    ahead = 0
    for sign, own in zip(SIGNS, band):
        if ahead < level <= own:
            return sign
        ahead = own
    return BLANK


def lane_signs(kind, ground, band, ahead, level):
    """What stands at a level in each lane of a band, the levels of the band ahead given too."""
    if kind == "bars":
        return [bar_sign(sign, own, ground, level) for sign, own in zip(SIGNS, band)]
    if kind == "lines":
        return [line_sign(sign, own, other, level) for sign, own, other in zip(SIGNS, band, ahead)]
    return [piece_sign(band, level)]


def picture_row(plan, ground, level):
    """The picture's columns at a level."""
    kind, width, rows, marks, levels, names, series = plan
    texts = []
    for at, band in enumerate(levels):
        # No band is ahead of the first one; behind itself it has no steps.
        signs = lane_signs(kind, ground, band, levels[max(at - 1, 0)], level)
        texts.append("".join([sign * width for sign in signs]))
    text = BLANK.join(texts)
    return GROUND * len(text) if level == ground else text


def names_row(names, starts):
    """The names under the picture, each from the first column of its band on."""
    text = ""
    for name, start in zip(names, starts):
        if name is not None:
            text = text.ljust(start) + name
    return text


def sheet_of(plan):
    """The list of texts that shows a plan."""
    kind, width, rows, marks, levels, names, series = plan
    labels = labels_of(marks, rows)
    ground = ground_of(kind, marks, rows)
    texts = [f"{kind} {width}"]
    for level in reversed(range(rows + 1)):
        texts.append(labels[level] + AXIS + picture_row(plan, ground, level))
    below = names_row(names, starts_of(kind, width, len(levels), len(series)))
    texts.append(BLANK * (len(labels[0]) + len(AXIS)) + below)
    for sign, name in zip(SIGNS, series):
        texts.append(f"{sign} {name}")
    return [text.rstrip(BLANK) for text in texts]
