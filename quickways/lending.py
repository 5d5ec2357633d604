"""The faults of the loans part.

For each rule there is also a function that looks at the rows of some functions of the program only."""

from quickways.faultlists import row_faults
from quickways.reach import regions
from quickways.trees import called_fun, names_lent


def alias_faults(program):
    """The faults of the rule `loans.alias`."""
    return alias_faults_in(program.funs)


def name_faults(program, reach):
    """The faults of the rule `loans.name`; `reach` is the Reach of the program."""
    return name_faults_in(program, reach, program.funs)


def watched_faults(program):
    """The faults of the rule `loans.watched`."""
    return watched_faults_in(program, program.funs)


def task_faults(program, reach):
    """The faults of the rule `loans.task`; `reach` is the Reach of the program."""
    return task_faults_in(reach, program.funs)


def alias_faults_in(funs):
    """The faults of the rule `loans.alias` in some functions."""

    def lends_twice(fun, number, row):
        names = names_lent(row)
        return len(set(names)) < len(names)

    return row_faults(funs, "loans.alias", lends_twice)


def name_faults_in(program, reach, funs):
    """The faults of the rule `loans.name` in some functions."""

    def lends_named(fun, number, row):
        places = _places_lent(program, row)
        return any([place in reach.named(called_fun(row)) for place in places])

    return row_faults(funs, "loans.name", lends_named)


def watched_faults_in(program, funs):
    """The faults of the rule `loans.watched` in some functions."""
    watched = [watch[1] for watch in program.watches]

    def lends_watched(fun, number, row):
        return any([place in watched for place in _places_lent(program, row)])

    return row_faults(funs, "loans.watched", lends_watched)


def task_faults_in(reach, funs):
    """The faults of the rule `loans.task` in some functions."""

    def lends_beside(fun, number, row):
        if row[0] != "start":
            return False
        region = dict(regions(fun))[number]
        return any([_lent_and_used(reach, fun[1], number, other) for other in region])

    return row_faults(funs, "loans.task", lends_beside)


def _places_lent(program, row):
    """The places that a row lends by their names."""
    return [name for name in names_lent(row) if program.is_place(name)]


def _lent_and_used(reach, fun, number, other):
    """Whether one of two rows of a function lends a place that the other one uses."""
    lent = [place for place in reach.row_lends(fun, number) if place in reach.row_uses(fun, other)]
    used = [place for place in reach.row_uses(fun, number) if place in reach.row_lends(fun, other)]
    return len(lent + used) > 0
