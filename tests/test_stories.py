"""The stories [95] to [97]."""

import unittest

from quickways.books import Books
from quickways.errors import BadPart, NoEntry
from quickways.mixtures import Mixture, all_mixtures
from quickways.programs import Program
from quickways.rules import UNSAFE
from quickways.runs import tell
from quickways.stories import Story, stories, story_for
from quickways.verdicts import faults, lets
from tests.helper import written
from tests.test_rules import NO_PARTS
from tests.told import RULES, STORIES
from tests.told import UNSAFE as SETS


def refused(function, *args):
    try:
        function(*args)
    except BadPart as why:
        return ("part", why.part)
    except NoEntry as why:
        return ("entry", why.name)
    return None


class TestStories(unittest.TestCase):
    def test_all_of_them(self):
        found = list(stories())
        self.assertEqual(len(found), 11)
        for story, (part, rules), (text, answers, weaving) in zip(found, SETS, STORIES):
            self.assertIsInstance(story, Story)
            self.assertIsInstance(story.program, Program)
            self.assertEqual((story.part, story.rules), (part, rules))
            self.assertEqual(story.program, written(text))
            self.assertEqual((story.answers, story.weaving), (answers, weaving))

    def test_one_and_other(self):
        for story in stories():
            self.assertTrue(story.one == Mixture() and story.other == Mixture.of(story.part))
            self.assertIsNot(story.one, story.one)
            self.assertIsNot(story.other, story.other)
            mixture = story.other
            mixture ^= story.part
            self.assertTrue(story.other == Mixture.of(story.part))

    def test_faults(self):
        for story in stories():
            self.assertEqual(tuple(rule for rule, _ in faults(story.program)), story.rules)
            for rule in RULES:
                self.assertIs(lets(Books(rule), story.program), rule not in story.rules)
            self.assertTrue(lets(~Books(*story.rules), story.program))

    def test_where_the_faults_are(self):
        self.assertEqual([where for story in stories() for _, where in faults(story.program)],
                         ["f.2", "main.1", "main.1", "main.1", "main.1", "main.1", "main.2", "main.2", "main.2",
                          "main.1",
                          "main.2", "a"])

    def test_tellings(self):
        for story in stories():
            one, other = story.tells(story.one), story.tells(story.other)
            self.assertNotEqual(one, other)
            for mixture in all_mixtures():
                told = story.tells(mixture)
                self.assertEqual(told, one if mixture[story.part] == "plain" else other)
                self.assertEqual(told, tell(story.program, mixture, answers=story.answers, weaving=story.weaving))

    def test_what_they_tell(self):
        told = [(story.tells(story.one)[0], story.tells(story.other)[0]) for story in stories()]
        self.assertEqual(told, [
            (("blames", "f.1+"), ("blames", "f.2+")), (("gives", 0), ("gives", 0)), (("gives", 0), ("gives", 0)),
            (("gives", 0), ("gives", 0)), (("gives", 0), ("gives", 0)), (("gives", 0), ("print", 1)),
            (("print", 1), ("print", 1)), (("print", 1), ("print", 2)), (("print", 1), ("print", 0)),
            (("gives", 2), ("gives", 1)), (("gives", 0), ("gives", 0))])


class TestStoryFor(unittest.TestCase):
    def test_each_unsafe_set(self):
        for (part, rules), story in zip(UNSAFE, stories()):
            for given in (rules, list(rules)):
                found = story_for(part, given)
                self.assertEqual((found.part, found.rules, found.program), (part, rules, story.program))
                self.assertEqual((found.answers, found.weaving), (story.answers, story.weaving))

    def test_no_part(self):
        for text in NO_PARTS + RULES:
            for rules in ((), ("casts.fork",), ["bad"]):
                self.assertEqual(refused(story_for, text, rules), ("part", text))

    def test_no_story(self):
        for part, rules in (("casts", ()), ("casts", ("loans.alias",)), ("loans", ("casts.fork",)),
                            ("loans", ("tasks.share", "loans.task")), ("loans", ("loans.task",)), ("tasks", ()),
                            ("loans", ("tasks.share",)), ("tasks", ("loans.task", "tasks.share")),
                            ("tasks", ["tasks.share", "tasks.ask"]), ("exits", ("exits.loop", "exits.loop")),
                            ("watch", ["bad"])):
            self.assertEqual(refused(story_for, part, rules), ("entry", part))


if __name__ == "__main__":
    unittest.main()
