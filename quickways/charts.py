"""Charts: the quick way of the exits part."""

from quickways.trees import numbered_rows


class ChartExits:
    """Keeps nothing: the position of a frame tells which deeds are due."""

    def note(self, frame, number, guard, deed, value):
        """Does nothing."""
        return None

    def due(self, frame, fun, position):
        """The deeds of the defer rows in front of the position, the last one first."""
        found = []
        for number, depth, row in numbered_rows(fun):
            if row[0] == "defer" and number < position:
                found.append((number, row[1], row[2], ()))
        return found[::-1]

    @property
    def room(self):
        """The number of the deeds on stacks."""
        return 0


def chart_of(fun):
    """For each row the numbers of the defer rows in front of it, the last one first."""
    entries = []
    defers = ()
    for number, depth, row in numbered_rows(fun):
        entries.append(defers)
        if row[0] == "defer":
            defers = (number,) + defers
    return tuple(entries)


def show_chart(fun):
    """Yields a line for each row, with its entry in the chart."""
    entries = chart_of(fun)
    for number, depth, row in numbered_rows(fun):
        entry = "".join([f"{defer:>4}" for defer in entries[number - 1]])
        yield f"{number:>3} {row[0]:.<8}{entry}"
