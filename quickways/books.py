"""Books: which of the rules are in force."""

from quickways.errors import BadText
from quickways.rules import RULES, rules_for


class Books:
    """The rules in force; all others are eased."""

    def __init__(self, *terms):
        told = []
        for term in terms:
            told.extend(rules_for(term))
        self._rules = _in_order(told)

    @classmethod
    def full(cls):
        """The books in which all rules are in force."""
        return cls(*RULES)

    @classmethod
    def none(cls):
        """The books in which no rule is in force."""
        return cls()

    @classmethod
    def read(cls, text):
        """The books of a text."""
        rules = text.split(" ") if text else []
        if any([rule not in RULES for rule in rules]):
            raise BadText(1)
        made = cls(*rules)
        # The rules may stand in another order or several times.
        if str(made) != text:
            raise BadText(1)
        return made

    def __contains__(self, x):
        return x in self._rules

    def __len__(self):
        return len(self._rules)

    def __iter__(self):
        return iter(self._rules)

    def __str__(self):
        return " ".join(self._rules)

    def __eq__(self, other):
        return isinstance(other, Books) and self._rules == other._rules

    def __getitem__(self, at):
        flags = [rule in self._rules for rule in rules_for(at)]
        if all(flags):
            return True
        return None if any(flags) else False

    def __setitem__(self, at, worth):
        rules = rules_for(at)
        kept = [rule for rule in self._rules if rule not in rules]
        if worth:
            kept.extend(rules)
        self._rules = _in_order(kept)

    def __or__(self, other):
        rules = [rule for rule in RULES if rule in self._rules or rule in other._rules]
        return Books(*rules)

    def __and__(self, other):
        rules = [rule for rule in self._rules if rule in other._rules]
        return Books(*rules)

    def __sub__(self, other):
        rules = [rule for rule in self._rules if rule not in other._rules]
        return Books(*rules)

    def __invert__(self):
        rules = [rule for rule in RULES if rule not in self._rules]
        return Books(*rules)

    def __ior__(self, other):
        self._rules = tuple([rule for rule in RULES if rule in self._rules or rule in other._rules])
        return self

    def __isub__(self, other):
        self._rules = tuple([rule for rule in self._rules if rule not in other._rules])
        return self

    def twin(self):
        """New equal books."""
        return Books(*self._rules)


def _in_order(rules):
    """These rules in their order, each once."""
    return tuple([rule for rule in RULES if rule in rules])
