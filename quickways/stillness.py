"""Still wishes: those for which a repeated value makes no difference."""

from quickways.kinds import atoms_of
from quickways.series import first_series
from quickways.wishes import Wish


def is_still(wish):
    """Whether the wish stumbles over no series."""
    # In the least form different states accept different series, so the states themselves must be the same.
    return all([wish.table[after][atom] == after for state in wish.table for atom, after in enumerate(state)])


def stilled(wish):
    """The wish that reads a series without the values whose atom is that of the value in front of them."""
    marks = [(0, None)] + [(state, atom) for state in range(len(wish)) for atom in atoms_of("any")]
    numbers = {mark: at for at, mark in enumerate(marks)}
    table = []
    for state, last in marks:
        row = []
        for atom, after in enumerate(wish.table[state]):
            mark = (state, last) if atom == last else (after, atom)
            row.append(numbers[mark])
        table.append(tuple(row))
    good = [at for at, (state, last) in enumerate(marks) if state in wish.good]
    return Wish(table, good)


def stumble(wish):
    """The first series of samples over which a wish stumbles and the least index at which it does, or None."""

    def moves(mark, atom):
        # A mark has one state as long as nothing is repeated, then that without and that with the repeated value.
        after = [wish.table[state][atom] for state in mark]
        if len(mark) == 1:
            return [(after[0],), (after[0], wish.table[after[0]][atom])]
        return [tuple(after)]

    def is_parted(mark):
        return len(mark) == 2 and (mark[0] in wish.good) != (mark[1] in wish.good)

    series = first_series((0,), moves, is_parted)
    if series is None:
        return None
    return (series, [at for at in range(len(series)) if _stumbles(wish, series, at)][0])


def still_faults(program):
    """The faults of the rule `watch.still`."""
    found = {}
    for word, place, tree in program.watches:
        if not is_still(Wish(tree[1], tree[2])):
            found[("watch.still", place)] = True
    return list(found)


def _stumbles(wish, series, at):
    """Whether a wish stumbles over a series at an index."""
    return wish.accepts(series) != wish.accepts(series[:at + 1] + series[at:])
