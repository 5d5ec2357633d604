"""The two ways of the watch part."""

from quickways.kinds import atom_of


class EveryWatch:
    """The plain way: each wish reads all letters of its place."""

    def __init__(self, watches, places):
        self._watches = tuple(watches)
        self._states = [0] * len(self._watches)
        for place, value in places:
            self.wrote(place, value)

    def wrote(self, place, value):
        """Follows a value that is set into a place itself."""
        self._states = _states_behind(self._watches, self._states, place, atom_of(value))

    def words(self):
        """The tuples of the place and the report of each watch."""
        return _reports(self._watches, self._states)


class ChangeWatch:
    """The quick way: a wish does not read a letter that is the one in front of it."""

    def __init__(self, watches, places):
        self._watches = tuple(watches)
        self._states = [0] * len(self._watches)
        self._letters = {}
        for place, value in places:
            self.wrote(place, value)

    def wrote(self, place, value):
        """Follows a value that is set into a place itself."""
        letter = atom_of(value)
        if self._letters.get(place) != letter:
            self._letters[place] = letter
            self._states = _states_behind(self._watches, self._states, place, letter)

    def words(self):
        """The tuples of the place and the report of each watch."""
        return _reports(self._watches, self._states)


def _states_behind(watches, states, place, letter):
    """The states of the wishes when those of a place have read a letter."""
    found = []
    for (word, watched, wish), state in zip(watches, states):
        found.append(wish[1][state][letter] if watched == place else state)
    return found


def _reports(watches, states):
    found = []
    for (word, watched, wish), state in zip(watches, states):
        found.append((watched, "kept" if state in wish[2] else "broken"))
    return found
