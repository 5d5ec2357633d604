"""Atoms and kinds of values."""

from quickways.errors import BadKind

KINDS = ("any", "num", "nat", "small", "digit", "bit", "word")
SAMPLES = (-50, -5, 1, 5, 50, "a")

ATOMS = {
    "any": (0, 1, 2, 3, 4, 5),
    "num": (0, 1, 2, 3, 4),
    "nat": (2, 3, 4),
    "small": (1, 2, 3),
    "digit": (2, 3),
    "bit": (2,),
    "word": (5,),
}


def atom_of(value):
    """The number of the atom of a value."""
    if isinstance(value, str):
        return 5
    if value < -9:
        return 0
    if value < 0:
        return 1
    if value < 2:
        return 2
    if value < 10:
        return 3
    return 4


def atoms_of(kind):
    """The atoms of a kind, in ascending order."""
    if kind not in ATOMS:
        raise BadKind(kind)
    return ATOMS[kind]


def fits(value, kind):
    """Whether the atom of a value is in a kind."""
    return atom_of(value) in atoms_of(kind)


def under(kind, other):
    """Whether each atom of a kind is an atom of the other one."""
    inner = atoms_of(kind)
    outer = atoms_of(other)
    return all([atom in outer for atom in inner])


def meet(kind, other):
    """The kind of the atoms that are in both kinds, or None."""
    inner = atoms_of(kind)
    outer = atoms_of(other)
    shared = tuple([atom for atom in inner if atom in outer])
    for found in KINDS:
        if atoms_of(found) == shared:
            return found
    return None


def join(kind, other):
    """The least kind under which both kinds lie."""
    atoms = atoms_of(kind) + atoms_of(other)
    return _least_with(atoms)


def least_kind(value):
    """The least kind that a value fits."""
    return _least_with((atom_of(value),))


def at_odds(kind, other):
    """Whether neither kind lies under the other one and some atom is in neither."""
    atoms = atoms_of(kind) + atoms_of(other)
    if under(kind, other) or under(other, kind):
        return False
    return any([atom not in atoms for atom in atoms_of("any")])


def implies(kinds, kind):
    """Whether every value that fits all kinds of a list fits this kind, too."""
    goal = atoms_of(kind)
    shared = atoms_of("any")
    for told in kinds:
        shared = [atom for atom in shared if atom in atoms_of(told)]
    return all([atom in goal for atom in shared])


def _least_with(atoms):
    """The kind with the fewest atoms that has all of these atoms."""
    found = [kind for kind in KINDS if all([atom in atoms_of(kind) for atom in atoms])]
    return min(found, key=lambda name: len(atoms_of(name)))
