"""Where tellings part, and hinges [98]."""

import random
import unittest

from quickways.books import Books
from quickways.deciding import books_for
from quickways.mixtures import PARTS, Mixture, all_mixtures
from quickways.openness import opening
from quickways.partings import hinge, parting
from quickways.rules import RULES
from quickways.runs import tell
from quickways.stories import stories
from tests.helper import written
from tests.randoms import random_programs
from tests.test_agreement import chosen

TWICE = written("fun main() / print 7 / loop 2 / defer always print 1 / end / return 0 / end")
# Casts and exits part it, in the first line and in a later one.
BOTH = written("place a = -50 / fun main() / defer always print 3 / call f(lent a) / if 0 / defer always print 1 / end "
               "/ return 0 / end / fun f(lent p) / narrow p to small / narrow p to nat / print p / return 0 / end")
BRANCH = written("fun main() / print 1 / if 0 / defer always print 2 / end / return 0 / end")


class TestParting(unittest.TestCase):
    def test_the_first_story(self):
        story = list(stories())[0]
        self.assertEqual(parting(story.program, story.one, story.other), (0, ("blames", "f.1+"), ("blames", "f.2+")))

    def test_equal_tellings(self):
        for mixture in all_mixtures():
            self.assertIsNone(parting(TWICE, mixture, mixture.twin()))
            self.assertIsNone(parting(TWICE, mixture, mixture ^ "loans"))

    def test_a_later_line(self):
        self.assertEqual(parting(TWICE, Mixture(), Mixture.of("exits")), (2, ("print", 1), ("gives", 0)))
        self.assertEqual(parting(TWICE, Mixture.of("exits"), Mixture()), (2, ("gives", 0), ("print", 1)))
        self.assertEqual(parting(BOTH, Mixture(), Mixture.of("casts")), (1, ("blames", "f.1+"), ("blames", "f.2+")))
        self.assertEqual(parting(BRANCH, Mixture.of("watch"), Mixture.of("exits", "loans")), (1, ("gives", 0),
                                                                                              ("print", 2)))

    def test_a_longer_telling(self):
        # A longer telling has more prints, so at the outcome of the other one, at the latest, the lines differ.
        found = 0
        for made in random_programs(161, 40) + [TWICE, BRANCH]:
            tellings = {number: tell(made, Mixture.numbered(number)) for number in range(32)}
            for number in (1, 4, 12, 31):
                one, other = tellings[0], tellings[number]
                if len(one) != len(other):
                    found += 1
                    index, line, second = parting(made, Mixture(), Mixture.numbered(number))
                    self.assertEqual((line, second), (one[index], other[index]))
        self.assertGreater(found, 5)

    def test_against_the_words(self):
        rng = random.Random(162)
        parted = 0
        for made in random_programs(163, 60):
            answers, weaving = chosen(rng)
            for _ in range(4):
                one, other = Mixture.numbered(rng.randrange(32)), Mixture.numbered(rng.randrange(32))
                first = tell(made, one, answers=answers, weaving=weaving)
                second = tell(made, other, answers=answers, weaving=weaving)
                wanted = None
                for at in range(max(len(first), len(second))):
                    lines = tuple(telling[at] if at < len(telling) else None for telling in (first, second))
                    if wanted is None and lines[0] != lines[1]:
                        wanted = (at,) + lines
                parted += wanted is not None
                self.assertEqual(parting(made, one, other, answers=answers, weaving=weaving), wanted)
        self.assertGreater(parted, 20)

    def test_answers_and_weavings(self):
        story = list(stories())[9]
        self.assertIsNone(parting(story.program, story.one, story.other))
        self.assertIsNone(parting(story.program, story.one, story.other, answers=story.answers))
        self.assertEqual(parting(story.program, story.one, story.other, answers=[1, 2], weaving=[0, 0, 1]),
                         (0, ("gives", 2), ("gives", 1)))


class TestHinge(unittest.TestCase):
    def test_one_part(self):
        for story in stories():
            told = {"answers": list(story.answers), "weaving": list(story.weaving)}
            self.assertEqual(hinge(story.program, story.one, story.other, **told), story.part)
            self.assertEqual(hinge(story.program, story.other, story.one, **told), story.part)

    def test_no_part(self):
        for mixture in all_mixtures():
            self.assertIsNone(hinge(BOTH, mixture, mixture.twin()))
            self.assertIsNone(hinge(BOTH, mixture, mixture ^ "watch"))
        self.assertIsNone(hinge(BOTH, Mixture(), Mixture.of("loans", "tasks", "watch")))

    def test_several_parts(self):
        self.assertEqual(hinge(BOTH, Mixture(), Mixture.of("casts", "exits")), "casts")
        self.assertEqual(hinge(BOTH, Mixture.of("casts", "exits"), Mixture()), "casts")
        self.assertEqual(hinge(BRANCH, Mixture(), ~Mixture()), "exits")
        self.assertEqual(hinge(BRANCH, Mixture.of("loans"), Mixture.of("casts", "exits", "watch")), "exits")

    def test_a_telling_that_comes_back(self):
        # The wish counts letters: there are three, two with copies, and then one if repeated letters are not read.
        made = written("place a = 5 / fun main() / call f(lent a) / return 0 / end / fun f(lent p) / set p = 5 "
                       "/ set p = 5 / return 0 / end / watch a 111111 000000 good 1")
        reports = [tell(made, Mixture.of(*parts))[-1][2] for parts in ((), ("loans",), ("loans", "watch"))]
        self.assertEqual(reports, ["kept", "broken", "kept"])
        one, other = Mixture(), Mixture.of("loans", "watch")
        self.assertIsNone(parting(made, one, other))
        self.assertEqual((hinge(made, one, other), hinge(made, other, one)), ("loans", None))
        self.assertEqual(hinge(made, Mixture.of("loans"), Mixture.of("watch")), "loans")
        self.assertEqual(hinge(made, Mixture.of("loans"), other), "watch")

    def test_against_the_words(self):
        rng = random.Random(164)
        several = 0
        for made in random_programs(165, 80):
            answers, weaving = chosen(rng)
            told = {"answers": answers, "weaving": weaving}
            one, other = Mixture.numbered(rng.randrange(32)), Mixture.numbered(rng.randrange(32))
            wanted = None
            ways = dict(zip(PARTS, one))
            for part in PARTS:
                before = tell(made, Mixture(**ways), **told)
                ways[part] = other[part]
                if wanted is None and tell(made, Mixture(**ways), **told) != before:
                    wanted = part
            self.assertEqual(hinge(made, one, other, **told), wanted)
            if parting(made, one, other, **told) is not None:
                several += 1
                self.assertIsNotNone(wanted)
            if wanted is not None:
                largest = books_for(made)
                for books in (largest, Books(*(rule for rule in largest if rng.random() < 0.5)), Books.none()):
                    self.assertIsNotNone(opening(books, wanted))
                    self.assertLessEqual(set(opening(books, wanted)), set(RULES) - set(books))
        self.assertGreater(several, 5)


if __name__ == "__main__":
    unittest.main()
