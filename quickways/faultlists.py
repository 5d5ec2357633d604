"""Lists of faults at rows."""

from quickways.names import label_of
from quickways.trees import numbered_rows


def row_faults(funs, rule, is_faulty):
    """The faults of a rule at those rows of functions for which `is_faulty(fun, number, row)` holds."""
    faults = []
    for fun in funs:
        for number, depth, row in numbered_rows(fun):
            if is_faulty(fun, number, row):
                faults.append((rule, label_of(fun[1], number)))
    return faults
