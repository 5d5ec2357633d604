"""What functions and rows can reach: the places that they name, use, set and lend, and answers."""

from quickways.names import label_of
from quickways.trees import called_fun, names_lent, names_read, names_set
from quickways.trees import numbered_lists, numbered_rows, row_at, size_of


def regions(fun):
    """The tuples (number, numbers) of each start row and of the rows between it and its partner."""
    found = []
    for listed in numbered_lists(fun[4]):
        for at, (number, row) in enumerate(listed):
            if row[0] == "start":
                found.append((number, _numbers_until(listed[at + 1:], row[1])))
    return sorted(found)


def _numbers_until(listed, task):
    """The numbers of the rows in front of the first row that waits for a task."""
    found = []
    for number, row in listed:
        if row[0] == "wait" and row[2] == task:
            break
        found.append(number)
    return tuple(found)


class Reach:
    """The places that the functions and rows of a program can reach."""

    def __init__(self, program):
        self.program = program
        self._points = _points_of(program)
        self._lent_places = _spread(program, self._points, names_lent, False)
        self._set_places = _spread(program, self._points, _names_changed, True)
        self._used_places = _spread(program, self._points, _names_touched, True)
        self._named_places = _named_of(program)
        self._asking = _asking_of(program)

    def points(self, fun, param):
        """The places that can be lent to a lent parameter."""
        self.program.kind(fun, param)
        return self._points.get((fun, param), ())

    def named(self, fun):
        """The places that a function names."""
        self.program.fun(fun)
        return self._named_places[fun]

    def uses(self, fun):
        """The places that a function uses."""
        return self._of_fun(self._used_places, fun)

    def sets(self, fun):
        """The places that a function sets."""
        return self._of_fun(self._set_places, fun)

    def lends(self, fun):
        """The places that a function lends."""
        return self._of_fun(self._lent_places, fun)

    def asks(self, fun):
        """Whether a function asks."""
        self.program.fun(fun)
        return self._asking[fun]

    def row_uses(self, fun, number):
        """The places that a row uses."""
        return self._of_row(self._used_places, fun, number)

    def row_sets(self, fun, number):
        """The places that a row sets."""
        return self._of_row(self._set_places, fun, number)

    def row_lends(self, fun, number):
        """The places that a row lends."""
        return self._of_row(self._lent_places, fun, number)

    def _of_fun(self, table, fun):
        self.program.fun(fun)
        return table[fun]

    def _of_row(self, table, fun, number):
        row_at(self.program.fun(fun), number)
        return table[label_of(fun, number)]


def _names_changed(row):
    return names_set(row) + names_lent(row)


def _names_touched(row):
    return names_read(row) + names_set(row) + names_lent(row)


def _in_order(program, found):
    """The places of the program that are among these names, in order and each once."""
    return tuple([name for name in program.place_names() if name in found])


def _places_for(program, points, fun, name):
    """The places for which a name of a function stands."""
    if program.is_place(name):
        return (name,)
    return points.get((fun, name), ())


def _points_of(program):
    """The points of all lent parameters, by (function, parameter)."""
    points = {(fun[1], param[1]): () for fun in program.funs for param in fun[2] if param[0] == "lent"}
    # Functions call later ones only, so the points of the lent names are complete by then.
    for fun in program.funs:
        for number, depth, row in numbered_rows(fun):
            for key, name in _lendings(program, row):
                added = points[key] + _places_for(program, points, fun[1], name)
                points[key] = _in_order(program, added)
    return points


def _lendings(program, row):
    """The tuples of a parameter, as (function, parameter), and the name that a row lends to it."""
    callee = called_fun(row)
    if callee is None:
        return []
    params = program.fun(callee)[2]
    return [((callee, param[1]), arg[1]) for param, arg in zip(params, row[3]) if arg[0] == "lent"]


def _spread(program, points, names_of, with_points):
    """The places of all functions by name, and of all rows by label.

    They are those of the names that `names_of` gives for a row, and those of the functions called.
    Functions have the points of their lent parameters, too, if `with_points` is True."""
    table = {}
    for fun in program.funs[::-1]:
        found = []
        for number, depth, row in numbered_rows(fun)[::-1]:
            places = _own_places(program, points, table, fun, names_of, row)
            for inner in range(number + 1, number + size_of((row,))):
                places.extend(table[label_of(fun[1], inner)])
            table[label_of(fun[1], number)] = _in_order(program, places)
            found.extend(places)
        if with_points:
            for param in fun[2]:
                found.extend(points.get((fun[1], param[1]), ()))
        table[fun[1]] = _in_order(program, found)
    return table


def _own_places(program, points, table, fun, names_of, row):
    """The list of the places of a row, without those of the rows inside it."""
    places = list(table.get(called_fun(row), ()))
    for name in names_of(row):
        places.extend(_places_for(program, points, fun[1], name))
    return places


def _named_of(program):
    """The places that each function names."""
    named = {}
    for fun in program.funs[::-1]:
        found = []
        for number, depth, row in numbered_rows(fun):
            found.extend(_names_touched(row))
            found.extend(named.get(called_fun(row), ()))
        named[fun[1]] = _in_order(program, found)
    return named


def _asking_of(program):
    """Whether each function asks."""
    asking = {}
    for fun in program.funs[::-1]:
        rows = [row for number, depth, row in numbered_rows(fun)]
        asking[fun[1]] = any([row[0] == "ask" or asking.get(called_fun(row), False) for row in rows])
    return asking
