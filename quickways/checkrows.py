"""Check rows: the plain way of the casts part."""

from quickways.errors import BadKind
from quickways.kinds import KINDS, fits


class CheckRow:
    """Casts in an order; it never changes."""

    def __init__(self, *casts):
        require_kinds(casts)
        self._casts = tuple([cast for cast in casts if cast[0] is not None or cast[1] is not None])

    def lent(self, read, write, label):
        """The check row with one more cast on the outside."""
        cast = (read, write, label)
        return CheckRow(*self._casts, cast)

    def reading(self, value):
        """None if the value passes for reading, otherwise the blamed text."""
        for read, write, label in self._casts:
            if read is not None and not fits(value, read):
                return f"{label}+"
        return None

    def writing(self, value):
        """None if the value passes for writing, otherwise the blamed text."""
        for read, write, label in self._casts[::-1]:
            if write is not None and not fits(value, write):
                return f"{label}-"
        return None

    def __add__(self, other):
        casts = self._casts + other._casts
        return CheckRow(*casts)

    def __invert__(self):
        casts = [(write, read, label) for read, write, label in self._casts[::-1]]
        return CheckRow(*casts)

    def __eq__(self, other):
        return isinstance(other, CheckRow) and self._casts == other._casts

    def __len__(self):
        return len(self._casts)

    def __iter__(self):
        return iter(self._casts)


def require_kinds(casts):
    """Raises BadKind for the first string that is no kind."""
    for cast in casts:
        for kind in cast[:2]:
            if kind is not None and kind not in KINDS:
                raise BadKind(kind)
