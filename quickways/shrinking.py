"""Programs made smaller, one cut after the other."""

from quickways.errors import BadProgram, NotParted
from quickways.partings import parting
from quickways.programs import Program
from quickways.trees import called_fun, inner_lists, numbered_rows, replace_row
from quickways.verdicts import demand, lets


def smaller(program):
    """Yields the programs one cut smaller, in the order of the cuts."""
    for places, funs, watches in _cuts(program):
        made = _unless_broken(places, funs, watches)
        if made is not None:
            yield made


def shrunk(program, books, one, other, *, answers=(), weaving=()):
    """The program that is left when no cut makes it smaller so that it still parts two mixtures."""

    def parts(cut):
        return parting(cut, one, other, answers=answers, weaving=weaving) is not None

    demand(books, program)
    if not parts(program):
        raise NotParted(0)
    left = program
    found = _first_parting(left, books, parts)
    while found is not None:
        left = found
        found = _first_parting(left, books, parts)
    return left


def _first_parting(program, books, parts):
    """The first program one cut smaller that the books let and that `parts`, or None."""
    for cut in smaller(program):
        if lets(books, cut) and parts(cut):
            return cut
    return None


def _unless_broken(places, funs, watches):
    """The program of these trees, None if it breaks a condition."""
    try:
        return Program(places, funs, watches)
    except BadProgram:
        return None


def _cuts(program):
    """The tuples of places, functions and watches to which the cuts lead, in their order."""
    cuts = []
    for at, fun in enumerate(program.funs):
        for number, depth, row in numbered_rows(fun):
            for cut in _row_cuts(fun, number, row):
                funs = program.funs[:at] + (cut,) + program.funs[at + 1:]
                cuts.append((program.places, _reached_funs(funs), program.watches))
    cuts.extend([(program.places, program.funs, watches) for watches in _without_each(program.watches)])
    cuts.extend([(places, program.funs, program.watches) for places in _without_each(program.places)])
    return cuts


def _row_cuts(fun, number, row):
    """The functions to which the cuts at a row lead."""
    left = fun
    if row[0] == "start":
        left = replace_row(fun, _partner_of(fun, row[1]), ())
    # The partner stands behind the start row, so the number of this row is the same without it.
    return [replace_row(left, number, ())] + [replace_row(fun, number, inner) for inner in inner_lists(row)]


def _partner_of(fun, task):
    """The number of the wait row for a task."""
    return [number for number, depth, row in numbered_rows(fun) if row[0] == "wait" and row[2] == task][0]


def _reached_funs(funs):
    """The first function and those that a function which is kept calls or starts."""
    kept = []
    called = [funs[0][1]]
    # Functions call later ones only, so all callers of a function stand in front of it.
    for fun in funs:
        if fun[1] in called:
            kept.append(fun)
            called.extend([called_fun(row) for number, depth, row in numbered_rows(fun)])
    return tuple(kept)


def _without_each(items):
    """The tuples in which one of some items is left out, the first one first."""
    return [items[:at] + items[at + 1:] for at in range(len(items))]
