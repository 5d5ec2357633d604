"""Programs that keep all conditions."""

from quickways.conditions import check_program
from quickways.errors import NoRow
from quickways.kinds import under
from quickways.names import label_of
from quickways.trees import numbered_rows, own_names_of, replace_row, row_at


class Program:
    """A program; it never changes."""

    MOST_WEIGHT = 200

    def __init__(self, places, funs, watches):
        self.weight = check_program(places, funs, watches, Program.MOST_WEIGHT)
        self.places = places
        self.funs = funs
        self.watches = watches
        self._funs_by_name = {tree[1]: tree for tree in funs}
        self._kinds = {tree[1]: _kinds_in(places, tree) for tree in funs}

    def __eq__(self, other):
        return (isinstance(other, Program) and self.places == other.places and self.funs == other.funs
                and self.watches == other.watches)

    def fun(self, name):
        """The function of this name."""
        if name not in self._funs_by_name:
            raise NoRow(name)
        return self._funs_by_name[name]

    def place_names(self):
        """The names of the places, in order."""
        return tuple([place[1] for place in self.places])

    def is_place(self, name):
        """Whether the name is that of a place."""
        return name in self.place_names()

    def is_lent(self, fun, name):
        """Whether the name is that of a lent parameter of the function."""
        if fun not in self._funs_by_name:
            return False
        return name in [param[1] for param in self._funs_by_name[fun][2] if param[0] == "lent"]

    def kind(self, fun, name):
        """The kind of a place, parameter or local as a function names it."""
        self.fun(fun)
        if name not in self._kinds[fun]:
            raise NoRow(name)
        return self._kinds[fun][name]

    def result(self, fun):
        """The kind of the result of a function."""
        return _told_kind(self.fun(fun)[3])

    def own_names(self, fun):
        """The own names of a function."""
        return own_names_of(self.fun(fun))

    def rows(self):
        """Yields the tuples (label, row) of all rows in reading order."""
        for tree in self.funs:
            for number, depth, row in numbered_rows(tree):
                yield label_of(tree[1], number), row

    @staticmethod
    def view_checks(first, second):
        """The read check and the write check of the view from a first kind to a second one."""
        read = None if under(first, second) else second
        write = None if under(second, first) else first
        return (read, write)

    def lend_checks(self, fun, name, other, param):
        """The view checks of lending a name of a function to a parameter of another one."""
        first = self.kind(fun, name)
        return Program.view_checks(first, self.kind(other, param))

    def narrow_checks(self, fun, name, kind):
        """The view checks of narrowing a parameter of a function."""
        if under(self.kind(fun, name), kind):
            return (None, None)
        return (kind, kind)

    def with_rows(self, fun, number, rows):
        """The program in which a row is replaced by the rows of a tuple."""
        row_at(self.fun(fun), number)
        funs = [replace_row(tree, number, rows) if tree[1] == fun else tree for tree in self.funs]
        return Program(self.places, tuple(funs), self.watches)


def _told_kind(kind):
    """A kind, `any` where it is left out."""
    return "any" if kind is None else kind


def _kinds_in(places, tree):
    """The kinds of the places, parameters and locals of a function by their names."""
    kinds = {place[1]: _told_kind(place[2]) for place in places}
    for param in tree[2]:
        kinds[param[1]] = _told_kind(param[2])
    for number, depth, row in numbered_rows(tree):
        if row[0] == "let":
            kinds[row[1]] = _told_kind(row[2])
    return kinds
