"""Expressions and names in a run."""

from quickways.errors import RowFails
from quickways.kinds import fits


class Names:
    """What the names in the frames of a run give, and how they are set."""

    def __init__(self, program, store):
        self._program = program
        self._store = store

    def value_of(self, frame, expr, label):
        """The value of an expression in the row of a label."""
        if expr[0] == "lit":
            return expr[1]
        if expr[0] == "name":
            return self._read(frame, expr[1])
        left = self._operand(frame, expr[0], expr[1], label)
        right = self._operand(frame, expr[0], expr[2], label)
        if expr[0] == "add":
            return left + right
        if expr[0] == "sub":
            return left - right
        holds = left < right if expr[0] == "less" else left == right
        return 1 if holds else 0

    def fitting_value(self, frame, expr, kind, label):
        """The value of an expression that must fit a kind."""
        value = self.value_of(frame, expr, label)
        require_fit(value, kind, label)
        return value

    def set_name(self, frame, name, value, label):
        """Sets a value into a name in the row of a label."""
        require_fit(value, self._program.kind(frame.function[1], name), label)
        if name in frame.views:
            _require_pass(frame.views[name].writing(value))
        if name in frame.views or self._program.is_place(name):
            self._store.write_spot(frame.spot(name), value)
        else:
            frame.held[name] = value

    def _read(self, frame, name):
        if name in frame.held:
            return frame.held[name]
        value = self._store.read_spot(frame.spot(name))
        if name in frame.views:
            _require_pass(frame.views[name].reading(value))
        return value

    def _operand(self, frame, word, expr, label):
        """The value of an operand, which must be no word if it is calculated with."""
        value = self.value_of(frame, expr, label)
        if word != "same" and isinstance(value, str):
            raise RowFails(label)
        return value


def require_fit(value, kind, label):
    """Raises RowFails with a label if a value does not fit a kind."""
    if not fits(value, kind):
        raise RowFails(label)


def _require_pass(blamed):
    """Raises RowFails with the text that a view blames, if it blames one."""
    if blamed is not None:
        raise RowFails(blamed)
