"""The faults of the exits part.

For each rule there is also a function that looks at the rows of some functions of the program only."""

from quickways.faultlists import row_faults
from quickways.trees import closes, names_set, numbered_rows, size_of, stands_in


def branch_faults(program):
    """The faults of the rule `exits.branch`."""
    return branch_faults_in(program.funs)


def loop_faults(program):
    """The faults of the rule `exits.loop`."""
    return loop_faults_in(program.funs)


def stale_faults(program):
    """The faults of the rule `exits.stale`."""
    return stale_faults_in(program, program.funs)


def branch_faults_in(funs):
    """The faults of the rule `exits.branch` in some functions."""

    def is_passed(fun, number, row):
        return row[0] == "defer" and any([_may_pass(at, outer, number) for at, depth, outer in numbered_rows(fun)])

    return row_faults(funs, "exits.branch", is_passed)


def loop_faults_in(funs):
    """The faults of the rule `exits.loop` in some functions."""

    def is_repeated(fun, number, row):
        return row[0] == "defer" and any([_repeats(at, outer, number) for at, depth, outer in numbered_rows(fun)])

    return row_faults(funs, "exits.loop", is_repeated)


def stale_faults_in(program, funs):
    """The faults of the rule `exits.stale` in some functions."""

    def is_stale(fun, number, row):
        if row[0] != "defer" or row[2][-1][0] != "name":
            return False
        name = row[2][-1][1]
        if program.is_place(name) or program.is_lent(fun[1], name):
            return True
        return any([name in names_set(later) for at, depth, later in numbered_rows(fun) if at > number])

    return row_faults(funs, "exits.stale", is_stale)


def _may_pass(at, row, number):
    """Whether the row of number `at` is an if row that may choose not to go to the row of a number inside it."""
    if row[0] != "if":
        return False
    if stands_in(number, row[2], at + 1):
        return True
    return stands_in(number, row[3], at + 1 + size_of(row[2])) and not closes(row[2])


def _repeats(at, row, number):
    """Whether the row of number `at` is a loop row that goes to the row of a number inside it more than once."""
    return row[0] == "loop" and row[1] > 1 and stands_in(number, row[2], at + 1)
