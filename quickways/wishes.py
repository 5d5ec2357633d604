"""Wishes: which series of values are as they should be."""

from quickways.errors import BadWish, TooLarge
from quickways.kinds import atom_of, atoms_of
from quickways.series import first_series


class Wish:
    """A wish in its least form; it never changes."""

    MOST = 40

    def __init__(self, table, good):
        _require_wish(table, good)
        least = _least_form(table, good)
        self.table = least[0]
        self.good = least[1]
        if len(self.table) > Wish.MOST:
            raise TooLarge(Wish.MOST)

    @staticmethod
    def always(kind):
        """The wish that all values fit a kind."""
        return Wish((_state(kind, 0, 1), _state("any", 1, 1)), (0,))

    @staticmethod
    def ever(kind):
        """The wish that at least one value fits a kind."""
        return Wish((_state(kind, 1, 0), _state("any", 1, 1)), (1,))

    @staticmethod
    def first(kind):
        """The wish that there is a first value and that it fits a kind."""
        return Wish((_state(kind, 1, 2), _state("any", 1, 1), _state("any", 2, 2)), (1,))

    @staticmethod
    def last(kind):
        """The wish that there is a last value and that it fits a kind."""
        return Wish((_state(kind, 1, 0), _state(kind, 1, 0)), (1,))

    @staticmethod
    def even():
        """The wish that the number of values is even."""
        return Wish((_state("any", 1, 1), _state("any", 0, 0)), (0,))

    def __call__(self, values):
        return self.accepts(values)

    def __contains__(self, x):
        return self.accepts(x)

    def accepts(self, values):
        """Whether the state behind the last value is a good one."""
        state = 0
        for value in values:
            state = self.table[state][atom_of(value)]
        return state in self.good

    def tree(self):
        """The wish as a tree."""
        return ("wish", self.table, self.good)

    def __len__(self):
        return len(self.table)

    def __eq__(self, other):
        return isinstance(other, Wish) and self.table == other.table and self.good == other.good

    def __or__(self, other):
        pairs, table = _pairs_of(self.table, other.table)
        good = [at for at, (left, right) in enumerate(pairs) if left in self.good or right in other.good]
        return Wish(table, good)

    def __and__(self, other):
        pairs, table = _pairs_of(self.table, other.table)
        good = [at for at, (left, right) in enumerate(pairs) if left in self.good and right in other.good]
        return Wish(table, good)

    def __sub__(self, other):
        pairs, table = _pairs_of(self.table, other.table)
        good = [at for at, (left, right) in enumerate(pairs) if left in self.good and right not in other.good]
        return Wish(table, good)

    def __invert__(self):
        good = [state for state in range(len(self.table)) if state not in self.good]
        return Wish(self.table, good)


def difference(one, other, /):
    """The first series of samples that exactly one of two wishes accepts, or None."""

    def moves(pair, atom):
        return [(one.table[pair[0]][atom], other.table[pair[1]][atom])]

    def is_parted(pair):
        return (pair[0] in one.good) != (pair[1] in other.good)

    return first_series((0, 0), moves, is_parted)


def _state(kind, fitting, other):
    """The state that goes to one state for the atoms of a kind and to another one for all others."""
    atoms = atoms_of(kind)
    return tuple([fitting if atom in atoms else other for atom in atoms_of("any")])


def _require_wish(table, good):
    """Raises BadWish if the states or the good states are not as they have to be."""
    many = len(table)
    for at, state in enumerate(table):
        if not _are_states(state, many) or len(state) != len(atoms_of("any")):
            raise BadWish(at)
    if many == 0 or not _are_states(good, many) or list(good) != sorted(set(good)):
        raise BadWish(many)


def _are_states(numbers, many):
    """Whether these are numbers of some of so many states."""
    if not isinstance(numbers, (tuple, list)):
        return False
    return all([_is_integer(number) and 0 <= number < many for number in numbers])


def _is_integer(value):
    """Whether a value is an integer; True and False are none."""
    return isinstance(value, int) and not isinstance(value, bool)


def _least_form(table, good):
    """The table and the good states of the least form."""
    order = _reached(table)
    classes = _classes(table, good, order)
    made = []
    ends = []
    for state in order:
        # The classes are numbered in this order, too, so this is the first state of the next class.
        if classes[state] == len(made):
            made.append(tuple([classes[after] for after in table[state]]))
            if state in good:
                ends.append(classes[state])
    return tuple(made), tuple(ends)


def _reached(table):
    """The states that some series leads to, in the order of the first ones that do."""
    order = [0]
    seen = {0: True}
    at = 0
    while at < len(order):
        for after in table[order[at]]:
            if after not in seen:
                seen[after] = True
                order.append(after)
        at += 1
    return order


def _classes(table, good, order):
    """The number of the class of each state; the states of a class accept the same series behind them."""
    ends = {state: True for state in good}
    classes = {state: 1 if state in ends else 0 for state in order}
    many = 0
    while True:
        numbers = {}
        made = {}
        for state in order:
            mark = (classes[state],) + tuple([classes[after] for after in table[state]])
            if mark not in numbers:
                numbers[mark] = len(numbers)
            made[state] = numbers[mark]
        if len(numbers) == many:
            return made
        many = len(numbers)
        classes = made


def _pairs_of(table, other):
    """The pairs of states that two tables reach with the same series, and the table of these pairs."""
    pairs = [(0, 0)]
    numbers = {(0, 0): 0}
    made = []
    at = 0
    while at < len(pairs):
        left, right = pairs[at]
        for pair in zip(table[left], other[right]):
            if pair not in numbers:
                numbers[pair] = len(pairs)
                pairs.append(pair)
        made.append(tuple([numbers[pair] for pair in zip(table[left], other[right])]))
        at += 1
    return pairs, made
