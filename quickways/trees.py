"""Functions, rows and expressions as trees: numbers of rows, names in rows, and parts of rows."""

from quickways.errors import NoRow
from quickways.names import label_of


def numbered_rows(fun):
    """The tuples (number, depth, row) of all rows of a function, in reading order."""
    found = []
    for depth, row in _deep_rows(fun[4], 1):
        found.append((len(found) + 1, depth, row))
    return found


def row_at(fun, number):
    """The row of a number."""
    found = numbered_rows(fun)
    if not 1 <= number <= len(found):
        raise NoRow(label_of(fun[1], number))
    return found[number - 1][2]


def replace_row(fun, number, rows):
    """The function in which the row of a number is replaced by the rows of a tuple."""
    row_at(fun, number)
    return fun[:4] + (_replaced(fun[4], number, rows),)


def size_of(rows):
    """The number of rows of a rows list, inner rows included."""
    return len(_deep_rows(rows, 1))


def closes(rows):
    """Whether a rows list surely ends with a return row."""
    if not rows:
        return False
    last = rows[-1]
    if last[0] == "if":
        return closes(last[2]) and closes(last[3])
    return last[0] == "return"


def names_read(row):
    """The names that a row itself reads, from left to right."""
    if row[0] == "narrow":
        return (row[1],)
    found = []
    for expr in row_exprs(row):
        found.extend([leaf[1] for leaf in leaves(expr) if leaf[0] == "name"])
    return tuple(found)


def names_set(row):
    """The names that a row itself sets."""
    if row[0] in ("set", "ask"):
        return (row[1],)
    if row[0] in ("call", "wait") and row[1] is not None:
        return (row[1],)
    if row[0] == "defer" and row[2][0] == "set":
        return (row[2][1],)
    return ()


def names_lent(row):
    """The names that a row itself lends, in the order of its arguments."""
    return tuple([arg[1] for arg in row_args(row) if arg[0] == "lent"])


def row_args(row):
    """The arguments of a call or start row, none for any other row."""
    if row[0] in ("call", "start"):
        return row[3]
    return ()


def called_fun(row):
    """The name of the function that a row calls or starts, or None."""
    if row[0] in ("call", "start"):
        return row[2]
    return None


def row_exprs(row):
    """The expressions of a row itself, from left to right."""
    if row[0] == "let":
        return (row[3],)
    if row[0] == "set":
        return (row[2],)
    if row[0] in ("print", "if", "return"):
        return (row[1],)
    if row[0] == "defer":
        return (row[2][-1],)
    return tuple([arg[1] for arg in row_args(row) if arg[0] == "worth"])


def leaves(expr):
    """The simple expressions of an expression, from left to right."""
    if expr[0] in ("lit", "name"):
        return [expr]
    return leaves(expr[1]) + leaves(expr[2])


def depth_of(expr):
    """The depth of an expression."""
    if expr[0] in ("lit", "name"):
        return 1
    return 1 + max(depth_of(expr[1]), depth_of(expr[2]))


def inner_lists(row):
    """The rows lists inside a row, in reading order."""
    if row[0] in ("if", "loop"):
        return row[2:]
    return ()


def listed_rows(rows, number):
    """The tuples (number, row) of a rows list whose first row has this number, inner rows left out."""
    found = []
    for row in rows:
        found.append((number, row))
        number += size_of((row,))
    return found


def inner_listed(number, row):
    """The rows lists inside a row of this number, each as a list of tuples (number, row)."""
    found = []
    first = number + 1
    for inner in inner_lists(row):
        found.append(listed_rows(inner, first))
        first += size_of(inner)
    return found


def stands_in(number, rows, first):
    """Whether a number is that of a row of a rows list, at any depth, whose first row has the number `first`."""
    return first <= number < first + size_of(rows)


def numbered_lists(rows, number=1):
    """All rows lists of a rows list whose first row has this number.

    Each is a list of tuples (number, row), the outer list stands first."""
    own = listed_rows(rows, number)
    inside = []
    for at, row in own:
        first = at + 1
        for inner in inner_lists(row):
            inside.extend(numbered_lists(inner, first))
            first += size_of(inner)
    return [own] + inside


def own_names_of(fun):
    """The names of the parameters, let rows and start rows of a function."""
    found = [param[1] for param in fun[2]]
    found.extend([row[1] for number, depth, row in numbered_rows(fun) if row[0] in ("let", "start")])
    return found


def _deep_rows(rows, depth):
    """The tuples (depth, row) of a rows list whose rows have this depth, in reading order."""
    found = []
    for row in rows:
        found.append((depth, row))
        for inner in inner_lists(row):
            found.extend(_deep_rows(inner, depth + 1))
    return found


def _replaced(old, number, rows):
    """A rows list in which one of its rows, counted from 1 with inner rows, is replaced."""
    made = []
    for row in old:
        size = size_of((row,))
        if number == 1:
            made.extend(rows)
        elif 1 < number <= size:
            made.append(_replaced_inside(row, number - 1, rows))
        else:
            made.append(row)
        number -= size
    return tuple(made)


def _replaced_inside(row, number, rows):
    """A row in which one of the rows inside it, counted from 1, is replaced."""
    made = row[:2]
    for inner in inner_lists(row):
        made = made + (_replaced(inner, number, rows),)
        number -= size_of(inner)
    return made
