"""Where the tellings of two mixtures part, and which part's change makes them differ."""

from quickways.runs import tell


def parting(program, one, other, *, answers=(), weaving=()):
    """The index at which the tellings of two mixtures part and their lines there, or None."""
    first = tell(program, one, answers=answers, weaving=weaving)
    second = tell(program, other, answers=answers, weaving=weaving)
    for at in range(max(len(first), len(second))):
        lines = (_line_at(first, at), _line_at(second, at))
        if lines[0] != lines[1]:
            return (at, lines[0], lines[1])
    return None


def hinge(program, one, other, *, answers=(), weaving=()):
    """The first part in the passage between two mixtures whose change makes the telling another one, or None."""
    mixture = one.twin()
    telling = tell(program, mixture, answers=answers, weaving=weaving)
    for part in one.parts_from(other):
        mixture = mixture ^ part
        if tell(program, mixture, answers=answers, weaving=weaving) != telling:
            return part
    return None


def _line_at(telling, at):
    """The line of an index, or None if there is none."""
    return telling[at] if at < len(telling) else None
