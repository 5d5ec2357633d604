"""Middles: the quick way of the casts part."""

from quickways.checkrows import CheckRow, require_kinds
from quickways.kinds import KINDS, fits, implies, under


class Middle:
    """Labels, one for each kind at most, for reading and for writing; it never changes."""

    def __init__(self, *casts):
        require_kinds(casts)
        reads = {}
        writes = {}
        for read, write, label in casts:
            if read is not None and not implies(list(reads), read):
                reads[read] = label
            if write is not None and write != "any":
                writes = {kind: writes[kind] for kind in writes if not under(write, kind)}
                writes[write] = label
        self._reads = _in_order(reads)
        self._writes = _in_order(writes)

    @classmethod
    def of(cls, row):
        """The middle of the casts of a check row."""
        casts = list(row)
        return cls(*casts)

    def lent(self, read, write, label):
        """The middle with one more cast on the outside."""
        casts = _casts_of(self._reads, self._writes)
        cast = (read, write, label)
        return Middle(*casts, cast)

    def reading(self, value):
        """None if the value passes for reading, otherwise the blamed text."""
        for kind, label in self._reads:
            if not fits(value, kind):
                return f"{label}+"
        return None

    def writing(self, value):
        """None if the value passes for writing, otherwise the blamed text."""
        for kind, label in self._writes:
            if not fits(value, kind):
                return f"{label}-"
        return None

    @property
    def read_labels(self):
        """What is kept for reading."""
        return self._reads

    @property
    def write_labels(self):
        """What is kept for writing."""
        return self._writes

    def check_row(self):
        """The check row of the middle."""
        casts = _casts_of(self._reads, self._writes)
        return CheckRow(*casts)

    def __len__(self):
        return len(self._reads + self._writes)

    def __add__(self, other):
        casts = _casts_of(self._reads, self._writes) + _casts_of(other._reads, other._writes)
        return Middle(*casts)

    def __eq__(self, other):
        return isinstance(other, Middle) and self._reads == other._reads and self._writes == other._writes


def _in_order(labels):
    """The tuples (kind, label) of a dict, in the order of the kinds."""
    return tuple([(kind, labels[kind]) for kind in KINDS if kind in labels])


def _casts_of(reads, writes):
    """The casts of the check row of a middle; a middle that is made of them keeps the same."""
    casts = [(kind, None, label) for kind, label in reads]
    casts.extend([(None, kind, label) for kind, label in writes[::-1]])
    return casts
