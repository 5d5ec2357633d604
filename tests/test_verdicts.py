"""Faults of all rules and verdicts [33, 83]."""

import random
import unittest

from quickways.books import Books
from quickways.castfaults import fork_faults
from quickways.errors import NotLet
from quickways.exitfaults import branch_faults, loop_faults, stale_faults
from quickways.lending import alias_faults, name_faults, task_faults, watched_faults
from quickways.reach import Reach
from quickways.rules import RULES
from quickways.sharing import ask_faults, share_faults
from quickways.stillness import still_faults
from quickways.verdicts import demand, faults, lets, verdict
from tests.helper import written
from tests.randoms import random_programs
from tests.told import STORIES, UNSAFE

# A fault of every rule, spread over several functions.
EVERY = written(
    "place a num = 5 / place b = 1 / fun main() / start t = g(lent a) / set a = 1 / wait t / call f(lent b, lent b) "
    "/ start u = h() / wait u / return 0 / end "
    "/ fun g(lent p) / narrow p to small / if b / defer always print p / narrow p to nat / end / set a = 2 "
    "/ return 0 / end "
    "/ fun f(lent p, lent q) / loop 2 / defer done print 1 / end / call k(lent b) / return 0 / end "
    "/ fun h() / let x = 1 / ask x / return x / end / fun k(lent r) / set b = r / return 0 / end "
    "/ watch a 111111 000000 good 0 / watch b 123333 333333 333333 333333 good 0 2")
WANTED = [
    ("casts.fork", "g.4"), ("loans.alias", "main.4"), ("loans.name", "main.1"), ("loans.name", "main.4"),
    ("loans.name", "f.3"), ("loans.watched", "main.1"), ("loans.watched", "main.4"), ("loans.watched", "f.3"),
    ("loans.task", "main.1"), ("exits.branch", "g.3"), ("exits.loop", "f.2"), ("exits.stale", "g.3"),
    ("tasks.share", "main.1"), ("tasks.ask", "main.5"), ("watch.still", "a"), ("watch.still", "b")]

# One row with faults of several rules, and one place with two watches that are not still.
ONE_ROW = written(
    "place a = 0 / fun main() / start t = f(lent a, lent a) / set a = 1 / wait t / return 0 / end "
    "/ fun f(lent p, lent q) / if 1 / loop 3 / defer always print p / end / end / ask a / return 0 / end "
    "/ watch a 111111 000000 good 0 / watch a 111111 222222 222222 good 1")
ONE_WANTED = [
    ("loans.alias", "main.1"), ("loans.name", "main.1"), ("loans.watched", "main.1"), ("loans.task", "main.1"),
    ("exits.branch", "f.3"), ("exits.loop", "f.3"), ("exits.stale", "f.3"), ("tasks.share", "main.1"),
    ("tasks.ask", "main.1"), ("watch.still", "a")]


def not_let(books, made):
    """The fault for which books do not let a program, None if they let it."""
    try:
        assert demand(books, made) is None
    except NotLet as why:
        return (why.rule, why.where)
    return None


class TestFaults(unittest.TestCase):
    def test_every_rule(self):
        self.assertEqual(faults(EVERY), WANTED)
        self.assertEqual({rule for rule, _ in WANTED}, set(RULES))

    def test_one_row(self):
        self.assertEqual(faults(ONE_ROW), ONE_WANTED)

    def test_none(self):
        self.assertEqual(faults(written("fun main() / return 0 / end")), [])

    def test_stories(self):
        for (text, _, _), (_, rules) in zip(STORIES, UNSAFE):
            self.assertEqual(tuple(rule for rule, _ in faults(written(text))), rules)

    def test_as_the_rules_find_them(self):
        for made in random_programs(111, 100):
            reach = Reach(made)
            found = [fork_faults(made), alias_faults(made), name_faults(made, reach), watched_faults(made),
                     task_faults(made, reach), branch_faults(made), loop_faults(made), stale_faults(made),
                     share_faults(made, reach), ask_faults(made, reach), still_faults(made)]
            for rule, part in zip(RULES, found):
                self.assertLessEqual({told for told, _ in part}, {rule})
            self.assertEqual(faults(made), [fault for part in found for fault in part])

    def test_order(self):
        for made in random_programs(112, 100):
            labels = [label for label, _ in made.rows()]
            places = [watch[1] for watch in made.watches]
            found = faults(made)
            self.assertEqual(len(set(found)), len(found))
            marks = [(RULES.index(rule), places.index(where) if rule == "watch.still" else labels.index(where))
                     for rule, where in found]
            self.assertEqual(marks, sorted(marks))

    def test_a_new_list(self):
        faults(EVERY).clear()
        self.assertEqual(faults(EVERY), WANTED)


class TestVerdict(unittest.TestCase):
    def test_full_and_none(self):
        self.assertEqual(verdict(EVERY, Books.full()), WANTED)
        self.assertEqual(verdict(EVERY, Books.none()), [])

    def test_some_rules(self):
        self.assertEqual(verdict(EVERY, Books("watch", "loans.task", "exits")),
                         [("loans.task", "main.1"), ("exits.branch", "g.3"), ("exits.loop", "f.2"), ("exits.stale",
                                                                                                     "g.3"),
                          ("watch.still", "a"), ("watch.still", "b")])
        for rule in RULES:
            self.assertEqual(verdict(EVERY, Books(rule)), [fault for fault in WANTED if fault[0] == rule])

    def test_lets_and_demand(self):
        rng = random.Random(113)
        for made in random_programs(114, 60):
            for _ in range(4):
                books = Books(*(rule for rule in RULES if rng.random() < 0.4))
                found = [fault for fault in faults(made) if fault[0] in list(books)]
                self.assertEqual(verdict(made, books), found)
                self.assertIs(lets(books, made), not found)
                self.assertEqual(not_let(books, made), found[0] if found else None)

    def test_the_first_fault(self):
        books = Books.full()
        for rule, where in (("casts.fork", "g.4"), ("loans.alias", "main.4"), ("loans.name", "main.1"),
                            ("loans.watched", "main.1"), ("loans.task", "main.1"), ("exits.branch", "g.3"),
                            ("exits.loop", "f.2"), ("exits.stale", "g.3"), ("tasks.share", "main.1"),
                            ("tasks.ask", "main.5"), ("watch.still", "a")):
            self.assertEqual(not_let(books, EVERY), (rule, where))
            books[rule] = False
        self.assertIsNone(not_let(books, EVERY))


if __name__ == "__main__":
    unittest.main()
