"""Shares dealt: a whole number parted by a list of fractions, each part a whole number."""


def on_one_bottom(numbers):
    """The tops that fractions have over one bottom that is the same for all."""
    common = 1
    for top, bottom in numbers:
        common *= bottom
    return [top * (common // bottom) for top, bottom in numbers]


def dealt(numbers, whole):
    """What each of the fractions gets of the whole."""
    tops = on_one_bottom(numbers)
    total = sum(tops)
    if total == 0:
        return [0 for top in tops]
    # Over one bottom, the dues' rests are compared as whole numbers.
    parts = [divmod(whole * top, total) for top in tops]
    told = [part for part, rest in parts]
    # sorted leaves those with the same rest in their order, so the first goes first.
    order = sorted(range(len(parts)), key=lambda at: -parts[at][1])
    for at in order[:whole - sum(told)]:
        told[at] += 1
    return told
