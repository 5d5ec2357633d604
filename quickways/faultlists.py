"""Lists of faults at rows."""

from quickways.names import label_of
from quickways.trees import numbered_rows


def row_faults(program, rule, is_faulty):
    """The faults of a rule at the rows for which `is_faulty(fun, number, row)` holds, in reading order."""
    faults = []
    for fun in program.funs:
        for number, depth, row in numbered_rows(fun):
            if is_faulty(fun, number, row):
                faults.append((rule, label_of(fun[1], number)))
    return faults
