"""The faults of the tasks part.

For each rule there is also a function that looks at the rows of some functions of the program only."""

from quickways.faultlists import row_faults
from quickways.names import label_of
from quickways.reach import regions


def clashes(program, reach):
    """Yields the labels of each start row and row of its region that clash, and the places at which they do."""
    for fun in program.funs:
        for number, other, places in _clashes_in(reach, fun):
            yield label_of(fun[1], number), label_of(fun[1], other), places


def share_faults(program, reach):
    """The faults of the rule `tasks.share`; `reach` is the Reach of the program."""
    return share_faults_in(reach, program.funs)


def ask_faults(program, reach):
    """The faults of the rule `tasks.ask`; `reach` is the Reach of the program."""
    return ask_faults_in(reach, program.funs)


def share_faults_in(reach, funs):
    """The faults of the rule `tasks.share` in some functions."""

    def shares(fun, number, row):
        return row[0] == "start" and number in [start for start, other, places in _clashes_in(reach, fun)]

    return row_faults(funs, "tasks.share", shares)


def ask_faults_in(reach, funs):
    """The faults of the rule `tasks.ask` in some functions."""

    def starts_asking(fun, number, row):
        return row[0] == "start" and reach.asks(row[2])

    return row_faults(funs, "tasks.ask", starts_asking)


def _clashes_in(reach, fun):
    """The tuples of the numbers of two rows of a function that clash, the start row first, and of the places."""
    found = []
    for number, others in regions(fun):
        for other in others:
            places = _clash_places(reach, fun[1], number, other)
            if places:
                found.append((number, other, places))
    return found


def _clash_places(reach, fun, number, other):
    """The places that one of two rows of a function sets and the other one uses."""
    # What a row sets it also uses, so all of these places are among those that the first row uses.
    first = reach.row_sets(fun, number)
    second = reach.row_sets(fun, other)
    shared = [place for place in reach.row_uses(fun, number) if place in reach.row_uses(fun, other)]
    return tuple([place for place in shared if place in first or place in second])
