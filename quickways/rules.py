"""The rules, and the unsafe sets of rules that open a part."""

from quickways.errors import BadPart, BadRule
from quickways.mixtures import PARTS

RULES = (
    "casts.fork", "loans.alias", "loans.name", "loans.watched", "loans.task", "exits.branch", "exits.loop",
    "exits.stale", "tasks.share", "tasks.ask", "watch.still",
)

UNSAFE = (
    ("casts", ("casts.fork",)),
    ("loans", ("loans.alias",)),
    ("loans", ("loans.name",)),
    ("loans", ("loans.watched",)),
    ("loans", ("loans.task", "tasks.share")),
    ("exits", ("exits.branch",)),
    ("exits", ("exits.loop",)),
    ("exits", ("exits.stale",)),
    ("tasks", ("tasks.share",)),
    ("tasks", ("tasks.ask",)),
    ("watch", ("watch.still",)),
)


def part_of(rule):
    """The part of a rule."""
    if rule not in RULES:
        raise BadRule(rule)
    return rule.partition(".")[0]


def rules_of(part):
    """The rules of a part, in their order."""
    if part not in PARTS:
        raise BadPart(part)
    return tuple([rule for rule in RULES if part_of(rule) == part])


def rules_for(term):
    """The rules for which a term of books stands: a rule itself, or all rules of a part."""
    if term in PARTS:
        return rules_of(term)
    if term not in RULES:
        raise BadRule(term)
    return (term,)
