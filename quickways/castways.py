"""The two ways of the casts part."""

from quickways.checkrows import CheckRow
from quickways.middles import Middle


class RowCasts:
    """The plain way: views are check rows."""

    def fresh(self):
        """A view without casts."""
        return CheckRow()


class MiddleCasts:
    """The quick way: views are middles."""

    def fresh(self):
        """A view without casts."""
        return Middle()
