"""Which parts are open under books, which mixtures agree, and which rules a part needs."""

from quickways.books import Books
from quickways.mixtures import PARTS, all_mixtures
from quickways.rules import RULES, UNSAFE, rules_of


def opening(books, part):
    """The first unsafe set of a part that has no rule in force, or None."""
    for rules in _unsafe_sets(part):
        if not any([rule in books for rule in rules]):
            return rules
    return None


def open_parts(books):
    """The open parts, in the order of the parts."""
    return tuple([part for part in PARTS if opening(books, part) is not None])


def agree(books, one, other, /):
    """Whether two mixtures agree: every open part has the same way in both."""
    return all([one[part] == other[part] for part in open_parts(books)])


def classes(books):
    """The classes of the numbers of the mixtures that agree."""
    parts = open_parts(books)
    found = {}
    for mixture in all_mixtures():
        ways = tuple([mixture[part] for part in parts])
        found.setdefault(ways, []).append(mixture.number)
    return tuple([tuple(numbers) for numbers in found.values()])


def needed(*parts):
    """Yields all least books for some parts, those with fewer and with earlier rules first."""
    ranked = {}
    for rules in _covers(parts):
        indexes = tuple(sorted([RULES.index(rule) for rule in rules]))
        if _are_least(Books(*rules), parts):
            ranked[(len(indexes), indexes)] = True
    for many, indexes in sorted(ranked):
        rules = [RULES[at] for at in indexes]
        yield Books(*rules)


def safe_easings(books, *parts):
    """The rules in force that are safe to ease for some parts."""
    closed = [part for part in parts if opening(books, part) is None]
    return tuple([rule for rule in books if _all_closed(books - Books(rule), closed)])


def _unsafe_sets(part):
    """The unsafe sets of a part; raises BadPart for any other string."""
    rules_of(part)
    return [rules for own, rules in UNSAFE if own == part]


def _all_closed(books, parts):
    """Whether all of these parts are closed."""
    return all([opening(books, part) is None for part in parts])


def _covers(parts):
    """Tuples of rules that have a rule of each unsafe set of these parts.

    The rules of all least books are among them, because a rule is only taken for a set that has none yet."""
    found = [()]
    for part in parts:
        for rules in _unsafe_sets(part):
            grown = []
            for cover in found:
                if any([rule in cover for rule in rules]):
                    grown.append(cover)
                else:
                    grown.extend([cover + (rule,) for rule in rules])
            found = grown
    return found


def _are_least(books, parts):
    """Whether easing any rule in force would open one of these parts, all of which are closed."""
    return not any([_all_closed(books - Books(rule), parts) for rule in books])
