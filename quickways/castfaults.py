"""The faults of the casts part, and the view checks of rows."""

from quickways.names import label_of
from quickways.odds import odd_with
from quickways.trees import called_fun, numbered_rows


def fork_faults(program):
    """The faults of the rule `casts.fork`."""
    found = []
    for fun in program.funs:
        found.extend(fork_faults_in(program, fun))
    return found


def fork_faults_in(program, fun):
    """The faults of the rule `casts.fork` in a function."""
    reads, writes = kinds_ahead(program, fun)
    found = []
    for number, depth, row in numbered_rows(fun):
        forks = False
        for read, write in row_view_checks(program, fun[1], row):
            forks = forks or odd_with(read, reads) or odd_with(write, writes)
            reads.append(read)
            writes.append(write)
        if forks:
            found.append(("casts.fork", label_of(fun[1], number)))
    return found


def kinds_ahead(program, fun):
    """The lists of the kinds of read checks and of write checks, None included, of the functions ahead of one."""
    reads = []
    writes = []
    for tree in program.funs[:program.funs.index(fun)]:
        for number, depth, row in numbered_rows(tree):
            for read, write in row_view_checks(program, tree[1], row):
                reads.append(read)
                writes.append(write)
    return reads, writes


def row_view_checks(program, fun, row):
    """The view checks of a row of a function, each a tuple of a read check and a write check."""
    if row[0] == "narrow":
        return [program.narrow_checks(fun, row[1], row[2])]
    callee = called_fun(row)
    if callee is None:
        return []
    params = program.fun(callee)[2]
    lent = [(arg[1], param[1]) for arg, param in zip(row[3], params) if arg[0] == "lent"]
    return [program.lend_checks(fun, name, callee, param) for name, param in lent]
