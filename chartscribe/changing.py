"""What changed: the texts in which one list is otherwise than another one."""

from chartscribe.errors import NoChange


def changes(one, other):
    """What changes one list of texts to another one: a tuple (many, rows)."""
    rows = [(k, text) for k, text in enumerate(other) if k >= len(one) or one[k] != text]
    return (len(other), rows)


def refuse_misplaced(many, rows):
    """Refuses the first tuple whose place isn't below many, or isn't above that of the tuple ahead."""
    ahead = -1
    for at, (k, text) in enumerate(rows):
        if not ahead < k < many:
            raise NoChange(at)
        ahead = k


def changed(one, told):
    """The list that what was told makes of the one."""
    many, rows = told
    refuse_misplaced(many, rows)
    made = one[:max(many, 0)]
    for k, text in rows:
        # The places rise, so a text that is to stand behind the end is the next one, or one lacks.
        if k < len(made):
            made[k] = text
        elif k == len(made):
            made.append(text)
    if len(made) < many:
        raise NoChange(len(rows))
    return made
