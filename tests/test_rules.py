"""The rules, their parts and the unsafe sets [81, 84]."""

import unittest

from quickways.errors import BadPart, BadRule
from quickways.mixtures import PARTS
from quickways.rules import RULES, UNSAFE, part_of, rules_of
from tests import told

NO_RULES = ("", "casts", "fork", "casts.", ".fork", "casts.fork ", " casts.fork", "Casts.fork", "casts.name",
            "loans.fork",
            "casts.fork loans.alias", "casts fork")
NO_PARTS = ("", "cast", "Casts", "casts.fork", "casts ", "loans exits", "any")


class TestRules(unittest.TestCase):
    def test_rules(self):
        self.assertEqual(RULES, told.RULES)

    def test_unsafe_sets(self):
        self.assertEqual(UNSAFE, told.UNSAFE)
        self.assertEqual(UNSAFE[4], ("loans", ("loans.task", "tasks.share")))

    def test_part_of(self):
        parts = [part_of(rule) for rule in RULES]
        self.assertEqual(parts, ["casts"] + ["loans"] * 4 + ["exits"] * 3 + ["tasks"] * 2 + ["watch"])

    def test_rules_of(self):
        self.assertEqual(rules_of("casts"), ("casts.fork",))
        self.assertEqual(rules_of("loans"), ("loans.alias", "loans.name", "loans.watched", "loans.task"))
        self.assertEqual(rules_of("exits"), ("exits.branch", "exits.loop", "exits.stale"))
        self.assertEqual(rules_of("tasks"), ("tasks.share", "tasks.ask"))
        self.assertEqual(rules_of("watch"), ("watch.still",))
        self.assertEqual(tuple(rule for part in PARTS for rule in rules_of(part)), RULES)

    def test_other_strings(self):
        for text in NO_RULES + PARTS:
            with self.assertRaises(BadRule) as caught:
                part_of(text)
            self.assertEqual(caught.exception.rule, text)
        for text in NO_PARTS + RULES:
            with self.assertRaises(BadPart) as caught:
                rules_of(text)
            self.assertEqual(caught.exception.part, text)


if __name__ == "__main__":
    unittest.main()
