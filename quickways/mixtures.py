"""The parts, their ways, and mixtures of ways."""

from quickways.errors import BadPart, BadText, BadWay

PARTS = ("casts", "loans", "exits", "tasks", "watch")
WAYS = ("plain", "quick")
OTHER_WAY = {"plain": "quick", "quick": "plain"}
BITS = {"casts": 1, "loans": 2, "exits": 4, "tasks": 8, "watch": 16}


class Mixture:
    """A way for each part."""

    COUNT = 32

    def __init__(self, *, casts="plain", loans="plain", exits="plain", tasks="plain", watch="plain"):
        for way in (casts, loans, exits, tasks, watch):
            if way not in WAYS:
                raise BadWay(way)
        self._ways = {"casts": casts, "loans": loans, "exits": exits, "tasks": tasks, "watch": watch}

    @classmethod
    def of(cls, *parts):
        """The mixture in which these parts are quick."""
        made = cls()
        for part in parts:
            made[part] = "quick"
        return made

    @classmethod
    def numbered(cls, number):
        """The mixture of a number."""
        if not 0 <= number < cls.COUNT:
            raise BadWay(number)
        made = cls()
        rest = number
        for part in PARTS:
            rest, at = divmod(rest, 2)
            made[part] = WAYS[at]
        return made

    @classmethod
    def read(cls, text):
        """The mixture of a written form."""
        words = text.split(" ")
        if len(words) != len(PARTS) or any([word not in WAYS for word in words]):
            raise BadText(1)
        made = cls()
        for part, word in zip(PARTS, words):
            made[part] = word
        return made

    def __getitem__(self, at):
        if at not in PARTS:
            raise BadPart(at)
        return self._ways[at]

    def __setitem__(self, at, worth):
        if at not in PARTS:
            raise BadPart(at)
        if worth not in WAYS:
            raise BadWay(worth)
        self._ways[at] = worth

    def __iter__(self):
        return iter(self._ways.values())

    def __str__(self):
        return " ".join(self._ways.values())

    def __eq__(self, other):
        return isinstance(other, Mixture) and self._ways == other._ways

    def __invert__(self):
        ways = {part: OTHER_WAY[self._ways[part]] for part in PARTS}
        return Mixture(**ways)

    def __xor__(self, other):
        if other not in PARTS:
            raise BadPart(other)
        ways = {part: self._ways[part] for part in PARTS}
        ways[other] = OTHER_WAY[ways[other]]
        return Mixture(**ways)

    def __ixor__(self, other):
        if other not in PARTS:
            raise BadPart(other)
        self._ways[other] = OTHER_WAY[self._ways[other]]
        return self

    @property
    def number(self):
        """The number of the mixture."""
        return sum([BITS[part] for part in PARTS if self._ways[part] == "quick"])

    def quick_parts(self):
        """The parts whose way is quick."""
        return tuple([part for part in PARTS if self._ways[part] == "quick"])

    def parts_from(self, other):
        """The parts whose ways differ in this mixture and another one."""
        return tuple([part for part in PARTS if self[part] != other[part]])

    def twin(self):
        """A new equal mixture."""
        ways = {part: self._ways[part] for part in PARTS}
        return Mixture(**ways)


def all_mixtures():
    """Yields the 32 mixtures in ascending order of their numbers."""
    for number in range(Mixture.COUNT):
        yield Mixture.numbered(number)
