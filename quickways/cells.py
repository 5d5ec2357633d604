"""The two ways of the loans part."""

from quickways.errors import NoEntry


class Ledger:
    """Which loans there are, on which spots they are, and where they lead."""

    def __init__(self, places):
        self._roots = {place: place for place in places}
        self._places = list(places)
        self._targets = {}

    def start_loan(self, key, target):
        """Notes a loan that begins."""
        # The roots of loans that have ended are kept, because no key is used twice.
        if key in self._roots:
            raise NoEntry(key)
        self.require_spot(target)
        self._roots[key] = self._roots[target]
        self._targets[key] = target

    def end_loan(self, key):
        """Notes that a loan ends and returns its target."""
        if key not in self._targets:
            raise NoEntry(key)
        return self._targets.pop(key)

    def is_spot(self, name):
        """Whether a name is that of a place or the key of an open loan."""
        return name in self._places or name in self._targets

    def require_spot(self, spot):
        """Raises NoEntry if there is no such spot."""
        if not self.is_spot(spot):
            raise NoEntry(spot)

    def root_of(self, spot):
        """The place to which a spot leads."""
        self.require_spot(spot)
        return self._roots[spot]

    def keys_on(self, spot):
        """The keys of the open loans on a spot, in the order in which they began."""
        self.require_spot(spot)
        return [key for key in self._targets if self._targets[key] == spot]

    def open_keys(self):
        """The keys of all open loans, in the order in which they began."""
        return list(self._targets)


class AddressLoans:
    """The plain way: a spot has the value of the place to which it leads."""

    def __init__(self, places):
        self._ledger = Ledger([name for name, value in places])
        self._values = {name: value for name, value in places}

    def begin(self, key, target):
        """Begins a loan on a spot."""
        self._ledger.start_loan(key, target)

    def value_at(self, spot):
        """The value of a spot."""
        return self._values[self._ledger.root_of(spot)]

    def set_at(self, spot, value):
        """Sets a spot and returns the name of the place that is set."""
        place = self._ledger.root_of(spot)
        self._values[place] = value
        return place

    def over(self, key):
        """Ends a loan, which sets no place."""
        self._ledger.end_loan(key)

    def root(self, spot):
        """The name of the place to which a spot leads."""
        return self._ledger.root_of(spot)

    def loans_on(self, spot):
        """The keys of the open loans on a spot, in the order in which they began."""
        return self._ledger.keys_on(spot)

    def open_loans(self):
        """The keys of all open loans, in the order in which they began."""
        return self._ledger.open_keys()

    @property
    def room(self):
        """The number of values that are held for loans."""
        return 0


class CopyLoans:
    """The quick way: each open loan has a value of its own."""

    def __init__(self, places):
        self._ledger = Ledger([name for name, value in places])
        self._values = {name: value for name, value in places}
        self._held = {}

    def begin(self, key, target):
        """Begins a loan on a spot, with the value of this spot."""
        self._ledger.start_loan(key, target)
        self._held[key] = self.value_at(target)

    def value_at(self, spot):
        """The value of a spot."""
        self._ledger.require_spot(spot)
        return self._values[spot] if spot in self._values else self._held[spot]

    def set_at(self, spot, value):
        """Sets a spot and returns its name if it is a place, otherwise None."""
        self._ledger.require_spot(spot)
        if spot in self._values:
            self._values[spot] = value
            return spot
        self._held[spot] = value
        return None

    def over(self, key):
        """Ends a loan and returns the name of the place that gets its value, or None."""
        target = self._ledger.end_loan(key)
        value = self._held.pop(key)
        if self._ledger.is_spot(target):
            return self.set_at(target, value)
        return None

    def root(self, spot):
        """The name of the place to which a spot leads."""
        return self._ledger.root_of(spot)

    def loans_on(self, spot):
        """The keys of the open loans on a spot, in the order in which they began."""
        return self._ledger.keys_on(spot)

    def open_loans(self):
        """The keys of all open loans, in the order in which they began."""
        return self._ledger.open_keys()

    @property
    def room(self):
        """The number of values that are held for loans."""
        return len(self._held)
