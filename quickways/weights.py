"""The weights of functions and rows."""


def fun_weights(funs):
    """The weight of each function by its name, where functions call later ones only."""
    weights = {}
    for fun in funs[::-1]:
        weights[fun[1]] = 1 + _rows_weight(fun[4], weights)
    return weights


def _rows_weight(rows, weights):
    return sum([_row_weight(row, weights) for row in rows])


def _row_weight(row, weights):
    if row[0] == "defer":
        return 2
    if row[0] == "call":
        return 1 + weights[row[2]]
    if row[0] == "start":
        return 2 + weights[row[2]]
    if row[0] == "if":
        return 1 + max(_rows_weight(row[2], weights), _rows_weight(row[3], weights))
    if row[0] == "loop":
        return row[1] * _rows_weight(row[2], weights)
    return 1
