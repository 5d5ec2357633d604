"""Stacks of deeds: the plain way of the exits part."""


class StackExits:
    """The stacks of the deeds of all frames."""

    def __init__(self):
        self._stacks = {}

    def note(self, frame, number, guard, deed, value):
        """Puts a deed on the stack of a frame, with its caught value."""
        self._stacks.setdefault(frame, []).append((number, guard, deed, (value,)))

    def due(self, frame, fun, position):
        """The deeds that are due, the one put last first; the stack is empty afterwards."""
        return self._stacks.pop(frame, [])[::-1]

    @property
    def room(self):
        """The number of the deeds on all stacks."""
        return sum([len(stack) for stack in self._stacks.values()])
