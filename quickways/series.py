"""First series: the search for the shortest way through states, atom by atom."""

from quickways.kinds import SAMPLES


def first_series(start, moves, is_goal):
    """The first series of samples that leads from a state to a goal, or None.

    `moves(state, atom)` is the list of the states to which the atom leads from a state."""
    if is_goal(start):
        return ()
    seen = {start: True}
    # Each group has all states to which one series leads and no series before it.
    groups = [((), [start])]
    at = 0
    while at < len(groups):
        series, states = groups[at]
        for atom, sample in enumerate(SAMPLES):
            found = _new_states(states, atom, moves, seen)
            if any([is_goal(state) for state in found]):
                return series + (sample,)
            if found:
                groups.append((series + (sample,), found))
        at += 1
    return None


def _new_states(states, atom, moves, seen):
    """The states to which an atom leads and that were not seen; they are noted as seen."""
    found = []
    for state in states:
        for after in moves(state, atom):
            if after not in seen:
                seen[after] = True
                found.append(after)
    return found
