"""Kinds at odds in check rows, and what views answer."""

from quickways.checkrows import CheckRow
from quickways.kinds import KINDS, SAMPLES, at_odds, atoms_of, implies


def odd_pairs():
    """The pairs of kinds at odds, in the order of the kinds."""
    found = []
    for at, kind in enumerate(KINDS):
        found.extend([(kind, other) for other in KINDS[at:] if at_odds(kind, other)])
    return found


def has_odds(row):
    """Whether two read kinds or two write kinds of a check row are at odds."""
    casts = list(row)
    return _any_at_odds([cast[0] for cast in casts]) or _any_at_odds([cast[1] for cast in casts])


def odd_with(kind, kinds):
    """Whether a kind or None is at odds with one of the kinds of a list that may have None, too."""
    if kind is None:
        return False
    return any([other is not None and at_odds(kind, other) for other in kinds])


def fork_row(kind, other, *, direction="reading"):
    """A check row whose order matters and the value that shows it, or None."""
    if not at_odds(kind, other):
        return None
    first, second = [name for name in KINDS if name in (kind, other)]
    atoms = atoms_of(first) + atoms_of(second)
    value = [sample for atom, sample in enumerate(SAMPLES) if atom not in atoms][0]
    if direction == "reading":
        return (CheckRow((second, None, "x"), (first, None, "y")), value)
    return (CheckRow((None, first, "x"), (None, second, "y")), value)


def trimmed(row):
    """The check row without its spare checks."""
    casts = list(row)
    made = []
    for at, (read, write, label) in enumerate(casts):
        inner = [cast[0] for cast in casts[:at]]
        outer = [cast[1] for cast in casts[at + 1:]]
        made.append((_unless_spare(read, inner), _unless_spare(write, outer), label))
    return CheckRow(*made)


def parting_value(view, other):
    """The first direction and sample for which two views answer differently, or None."""
    for direction in ("reading", "writing"):
        answers = _answers(view, direction)
        others = _answers(other, direction)
        for at, value in enumerate(SAMPLES):
            if answers[at] != others[at]:
                return (direction, value)
    return None


def alike(view, other):
    """Whether two views answer the same for every value."""
    return parting_value(view, other) is None


def blamed_texts(view):
    """The texts that a view blames for some value, in ascending order."""
    texts = _answers(view, "reading") + _answers(view, "writing")
    return sorted(set([text for text in texts if text is not None]))


def normal_row(view):
    """The check row that is made from the answers of a view to the samples."""
    reads = [(kind, None, label) for kind, label in _taken(_answers(view, "reading"))]
    writes = [(None, kind, label) for kind, label in _taken(_answers(view, "writing"))]
    casts = reads + writes[::-1]
    return CheckRow(*casts)


def _any_at_odds(kinds):
    return any([odd_with(kind, kinds) for kind in kinds])


def _unless_spare(kind, earlier):
    """The kind of a check, or None if it is implied by those that are looked at before it."""
    if kind is None or implies([other for other in earlier if other is not None], kind):
        return None
    return kind


def _answers(view, direction):
    """What a view answers to the samples, in their order."""
    if direction == "reading":
        return [view.reading(value) for value in SAMPLES]
    return [view.writing(value) for value in SAMPLES]


def _taken(answers):
    """The tuples (kind, label) that the normal row takes for the answers in one direction."""
    left = list(atoms_of("any"))
    taken = []
    while any([answers[atom] is not None for atom in left]):
        kind, gone = _widest(answers, left)
        taken.append((kind, answers[gone[0]][:-1]))
        left = [atom for atom in left if atom not in gone]
    return taken


def _is_one_text(answers):
    """Whether all of some answers are one and the same blamed text."""
    return answers[0] is not None and len(set(answers)) == 1


def _widest(answers, left):
    """The kind that leaves out the most of the atoms left, all blamed with one text, and these atoms."""
    best = None
    most = []
    for kind in KINDS:
        gone = [atom for atom in left if atom not in atoms_of(kind)]
        if len(gone) > len(most) and _is_one_text([answers[atom] for atom in gone]):
            best = kind
            most = gone
    return best, most
