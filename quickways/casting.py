"""The casts that a program needs."""

from quickways.flows import demands, kind_in, kinds_of_holders
from quickways.kinds import under


def casts(program):
    """The needed casts, in the order of the demands."""
    kinds = kinds_of_holders(program)
    found = []
    for label, slot, source, target in demands(program):
        goal = kind_in(kinds, target)
        if not under(kind_in(kinds, source), goal):
            found.append((label, slot, goal))
    return found


def blame_of(cast):
    """The blamed label of a needed cast."""
    label, slot, kind = cast
    if slot.startswith("in"):
        return f"{label}+"
    if slot.startswith("out"):
        return f"{label}-"
    return label
