"""Names placed side by side, as many as stand without touching."""


def next_free(name, start):
    """The first place at which another name may begin behind a name that begins at start."""
    # Two names touch where no place stays free between them.
    return start + len(name) + 1


def placed(names, starts):
    """The list with each name, or None where it isn't taken."""
    told = [None for name in names]
    # sorted leaves those that end at the same place in their order, so the first goes first.
    order = sorted(range(len(names)), key=lambda at: next_free(names[at], starts[at]))
    free = 0
    for at in order:
        if starts[at] >= free:
            told[at] = names[at]
            free = next_free(names[at], starts[at])
    return told
