"""The values of a run: its places and their loans, what follows them, and the cells that a step touches."""


class Store:
    """The places of a run in one way of the loans part and one way of the watch part."""

    def __init__(self, loans, watching):
        self.deeds = []
        self._loans = loans
        self._watching = watching
        self._reads = {}
        self._writes = {}

    def read_spot(self, spot):
        """The value of a spot, whose name is evaluated."""
        self.deeds.append(("read", spot))
        self._reads[self._loans.root(spot)] = True
        return self._loans.value_at(spot)

    def write_spot(self, spot, value):
        """Sets a value into a spot."""
        self.deeds.append(("write", spot, value))
        self._writes[self._loans.root(spot)] = True
        self._follow(self._loans.set_at(spot, value))

    def begin_loan(self, key, target):
        """Begins a loan on a spot."""
        self.deeds.append(("begin", key, target))
        self._loans.begin(key, target)
        self._reads[self._loans.root(key)] = True
        self._writes[self._loans.root(key)] = True

    def end_loan(self, key):
        """Ends a loan."""
        self.deeds.append(("over", key))
        self._writes[self._loans.root(key)] = True
        self._follow(self._loans.over(key))

    def write_cell(self, cell):
        """Notes that the step writes a cell that is no place."""
        self._writes[cell] = True

    def take_cells(self):
        """The cells that were read and written since this was asked last."""
        reads = tuple(sorted(self._reads))
        writes = tuple(sorted(self._writes))
        self._reads = {}
        self._writes = {}
        return reads, writes

    def value_held(self, place):
        """The value of a place, without a deed."""
        return self._loans.value_at(place)

    def values_lent(self):
        """The number of the values that are held for loans."""
        return self._loans.room

    def _follow(self, place):
        """Tells the watches of a place that it was set, if a place was."""
        if place is not None:
            self._watching.wrote(place, self._loans.value_at(place))
