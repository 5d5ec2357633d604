"""What the stories decide [101]."""

import random
import unittest

from quickways.books import Books
from quickways.deciding import books_for, table_agrees, witness
from quickways.mixtures import PARTS, Mixture, all_mixtures
from quickways.openness import agree, opening
from quickways.rules import RULES, rules_of
from quickways.runs import tell
from quickways.stories import Story
from quickways.verdicts import faults, lets
from tests.helper import written
from tests.randoms import random_programs
from tests.told import STORIES, UNSAFE

MIXTURES = list(all_mixtures())
# The tellings of the stories in all mixtures.
TELLINGS = [[tell(written(text), mixture, answers=answers, weaving=weaving) for mixture in MIXTURES]
            for text, answers, weaving in STORIES]


def telling_stories(rules, one, other):
    """The indexes of the stories that do not tell the same in two mixtures, if these rules are in force."""
    return [at for at, (_, own) in enumerate(UNSAFE)
            if not set(own) & set(rules) and TELLINGS[at][one] != TELLINGS[at][other]]


class TestTable(unittest.TestCase):
    def check(self, books, pairs):
        for one, other in pairs:
            found = witness(books, MIXTURES[one], MIXTURES[other])
            agreed = table_agrees(books, MIXTURES[one], MIXTURES[other])
            at = telling_stories(list(books), one, other)
            self.assertIs(agreed, not at)
            self.assertIs(agreed, agree(books, MIXTURES[one], MIXTURES[other]))
            if at:
                self.assertIsInstance(found, Story)
                self.assertEqual((found.part, found.rules), UNSAFE[at[0]])
                self.assertEqual(found.program, written(STORIES[at[0]][0]))
            else:
                self.assertIsNone(found)

    def test_all_pairs(self):
        every = [(one, other) for one in range(32) for other in range(32)]
        self.check(Books("exits", "loans.alias", "tasks.ask"), every)
        half = [(one, other) for one, other in every if one <= other]
        for books in (Books("casts", "loans.task", "tasks", "exits.loop"), Books.full() - Books("tasks.share")):
            self.check(books, half)

    def test_some_pairs(self):
        rng = random.Random(181)
        for _ in range(25):
            books = Books(*(rule for rule in RULES if rng.random() < 0.6))
            self.check(books, [(rng.randrange(32), rng.randrange(32)) for _ in range(12)])
        for books in (Books.full(), Books.none()):
            self.check(books, [(number, 31 - number) for number in range(32)] + [(0, 1), (5, 5)])

    def test_witnesses(self):
        for part in PARTS:
            found = witness(Books.none(), Mixture(), Mixture.of(part))
            self.assertEqual((found.part, found.rules), (part, opening(Books.none(), part)))
            self.assertIsNone(witness(Books.full(), Mixture(), Mixture.of(part)))
        found = witness(Books("loans") - Books("loans.task"), Mixture(), Mixture.of("loans"))
        self.assertEqual(found.rules, ("loans.task", "tasks.share"))
        found = witness(Books(*rules_of("loans")[:3], "tasks.share"), Mixture(), ~Mixture())
        self.assertEqual(found.rules, ("casts.fork",))

    def test_a_witness_refutes(self):
        rng = random.Random(182)
        for _ in range(60):
            books = Books(*(rule for rule in RULES if rng.random() < 0.5))
            one, other = rng.choice(MIXTURES), rng.choice(MIXTURES)
            found = witness(books, one, other)
            if found is not None:
                self.assertTrue(lets(books, found.program))
                self.assertNotEqual(found.tells(one), found.tells(other))


class TestBooksFor(unittest.TestCase):
    def test_stories(self):
        for (text, _, _), (_, rules) in zip(STORIES, UNSAFE):
            self.assertEqual(books_for(written(text)), ~Books(*rules))

    def test_the_largest_books(self):
        for made in random_programs(183, 60):
            books = books_for(made)
            broken = {rule for rule, _ in faults(made)}
            self.assertEqual(list(books), [rule for rule in RULES if rule not in broken])
            self.assertTrue(lets(books, made))
            for rule in broken:
                self.assertFalse(lets(books | Books(rule), made))

    def test_new_books(self):
        made = written("fun main() / return 0 / end")
        books_for(made)["loans"] = False
        self.assertEqual(books_for(made), Books.full())


if __name__ == "__main__":
    unittest.main()
