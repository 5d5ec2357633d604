"""The faults of the casts part."""

from quickways.names import label_of
from quickways.odds import odd_with
from quickways.trees import called_fun, numbered_rows


def fork_faults(program):
    """The faults of the rule `casts.fork`."""
    reads = []
    writes = []
    faults = []
    for fun in program.funs:
        for number, depth, row in numbered_rows(fun):
            forks = False
            for read, write in row_view_checks(program, fun[1], row):
                forks = forks or odd_with(read, reads) or odd_with(write, writes)
                reads.append(read)
                writes.append(write)
            if forks:
                faults.append(("casts.fork", label_of(fun[1], number)))
    return faults


def row_view_checks(program, fun, row):
    """The view checks of a row of a function, each a tuple of a read check and a write check."""
    if row[0] == "narrow":
        return [program.narrow_checks(fun, row[1], row[2])]
    callee = called_fun(row)
    if callee is None:
        return []
    params = program.fun(callee)[2]
    lent = [(arg[1], param[1]) for arg, param in zip(row[3], params) if arg[0] == "lent"]
    return [program.lend_checks(fun, name, callee, param) for name, param in lent]
