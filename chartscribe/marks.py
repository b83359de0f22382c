"""Round marks: the whole multiples of a round step that hold a low and a high."""

from chartscribe.fractions import floor_of, is_less, less, over, plus, times


def ten_at_most(one):
    """The greatest power of ten that isn't above a fraction above 0."""
    top, bottom = one
    up = down = 1
    while bottom * 10 <= top:
        bottom *= 10
        up *= 10
    # Without 0 < top this would never end for what isn't above 0.
    while 0 < top < bottom:
        top *= 10
        down *= 10
    return (up, down)


def next_round(one):
    """The least round fraction that isn't less than a fraction above 0."""
    power = ten_at_most(one)
    for lead in (1, 2, 5):
        told = times((lead, 1), power)
        if not is_less(told, one):
            return told
    return times((10, 1), power)


def is_round(one):
    """Whether a fraction is 1, 2 or 5 times a power of ten."""
    return one[0] > 0 and next_round(one) == one


def taken_high(low, high):
    """The high that is taken for the two: a greater one where they are the same."""
    if low != high:
        return high
    if high == (0, 1):
        return (1, 1)
    return plus(high, (abs(high[0]), high[1]))


def fewest_marks(low, high):
    """How few marks a great step has: -s, 0, s where 0 lies between the two, else two of these."""
    return 3 if low[0] < 0 < high[0] else 2


def end_marks(low, high, step):
    """Which multiples of a step are its first and its last mark, as a tuple."""
    top, bottom = over(high, step)
    # Two signs turn the floor about: it is the least that isn't below.
    return (floor_of(over(low, step)), -(-top // bottom))


def count_marks(low, high, step):
    """How many marks a step has."""
    first, last = end_marks(low, high, step)
    return last - first + 1


def step_of(low, high, most):
    """The least round fraction that has at most so many marks for a low and a high."""
    high = taken_high(low, high)
    # A most that no step keeps would be sought for ever.
    most = max(most, fewest_marks(low, high))
    # A lesser step needs more marks for the way from the low to the high alone.
    step = next_round(over(less(high, low), (most - 1, 1)))
    while count_marks(low, high, step) > most:
        # No round fraction lies between a round one and its double.
        step = next_round(times((2, 1), step))
    return step


def marks_of(low, high, most):
    """The marks of that step, rising."""
    step = step_of(low, high, most)
    first, last = end_marks(low, taken_high(low, high), step)
    return [times((many, 1), step) for many in range(first, last + 1)]
