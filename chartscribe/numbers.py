"""Numbers: fractions as they are written, each in one way at most."""

from chartscribe.errors import NoNumber
from chartscribe.fractions import fraction

FIGURES = "0123456789"
MOST_AHEAD = 15
MOST_BEHIND = 12
# One in the units of the last place that is written.
UNIT = 10 ** 12
# The least number, in these units, that has too many figures ahead of the point.
TOO_GREAT = 10 ** 27


def are_figures(text, most):
    """Whether a text is one figure to most figures, and nothing else."""
    return 1 <= len(text) <= most and all(sign in FIGURES for sign in text)


def is_ahead(text):
    """Whether a text may stand ahead of the point, behind the sign."""
    return are_figures(text, MOST_AHEAD) and (text == "0" or text[0] != "0")


def is_behind(text):
    """Whether a text may stand behind the point."""
    return are_figures(text, MOST_BEHIND) and text[-1] != "0"


def is_number(text):
    """Whether a thing is a text that writes a number."""
    if not isinstance(text, str) or text == "-0":
        return False
    ahead, point, behind = text.removeprefix("-").partition(".")
    return is_ahead(ahead) and (point == "" or is_behind(behind))


def read_number(text):
    """The fraction that a text writes."""
    if not is_number(text):
        raise NoNumber("no number is written so")
    ahead, point, behind = text.partition(".")
    return fraction(int(ahead + behind.ljust(MOST_BEHIND, "0")), UNIT)


def read_whole(text):
    """The whole number that a text writes."""
    top, bottom = read_number(text)
    if bottom != 1:
        raise NoNumber("no whole number is written so")
    return top


def show_number(one):
    """The text that writes a fraction."""
    units, rest = divmod(abs(one[0]) * UNIT, one[1])
    # Asked ahead of str, which does not take a number of many thousand figures.
    if rest != 0 or units >= TOO_GREAT:
        raise NoNumber("this fraction is not written as a number")
    ahead, places = divmod(units, UNIT)
    behind = str(places).zfill(MOST_BEHIND).rstrip("0")
    sign = "-" if one[0] < 0 else ""
    point = "." if behind else ""
    return f"{sign}{ahead}{point}{behind}"


def is_written(one):
    """Whether a fraction is written as a number."""
    try:
        show_number(one)
    except NoNumber:
        return False
    return True
