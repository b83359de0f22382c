"""Fractions: tuples (top, bottom) in lowest terms, bottom from 1 on."""

from chartscribe.errors import NoFraction


def is_whole(thing):
    """Whether a thing is a whole number: an int that is no truth."""
    return isinstance(thing, int) and not isinstance(thing, bool)


def common_divisor(one, other):
    """The greatest number that divides both, of two from 0 on that aren't both 0."""
    while other != 0:
        one, other = other, one % other
    return one


def fraction(top, bottom):
    """The fraction of the same worth as top divided by bottom."""
    if not is_whole(top) or not is_whole(bottom):
        raise NoFraction("a fraction is made of two whole numbers")
    if bottom == 0:
        raise NoFraction("a fraction's bottom is not 0")
    shared = common_divisor(abs(top), abs(bottom))
    if bottom < 0:
        shared = -shared
    return (top // shared, bottom // shared)


def is_fraction(thing):
    """Whether a thing is a fraction: a tuple such as fraction tells."""
    if not isinstance(thing, tuple) or len(thing) != 2:
        return False
    top, bottom = thing
    return is_whole(top) and is_whole(bottom) and bottom > 0 and fraction(top, bottom) == thing


def plus(one, other):
    """The sum of two fractions."""
    return fraction(one[0] * other[1] + other[0] * one[1], one[1] * other[1])


def less(one, other):
    """The first fraction less the second one."""
    return fraction(one[0] * other[1] - other[0] * one[1], one[1] * other[1])


def times(one, other):
    """The product of two fractions."""
    return fraction(one[0] * other[0], one[1] * other[1])


def over(one, other):
    """The first fraction divided by the second one."""
    # A divisor of (0, 1) makes the bottom 0, which fraction refuses.
    return fraction(one[0] * other[1], one[1] * other[0])


def is_less(one, other):
    """Whether the first fraction is less than the second one."""
    return one[0] * other[1] < other[0] * one[1]


def floor_of(one):
    """The greatest whole number that isn't above a fraction."""
    return one[0] // one[1]


def nearest(one):
    """The whole number nearest to a fraction, of two that are as near the greater one."""
    # The floor of the fraction and a half more goes up where two are as near, below 0 too.
    return (2 * one[0] + one[1]) // (2 * one[1])
