"""Both ways of the watch part [61, 62], with [56] and [60]."""

import random
import unittest

from quickways.kinds import atom_of
from quickways.stillness import is_still
from quickways.watching import ChangeWatch, EveryWatch
from quickways.wishes import Wish
from tests.randoms import VALUES, random_wish

EVEN = Wish.even().tree()
LAST = Wish.last("nat").tree()
EVER = Wish.ever("word").tree()


def watch(place, wish):
    return ("watch", place, wish)


def reports(watching):
    return [report for _, report in watching.words()]


class TestEveryWatch(unittest.TestCase):
    def test_first_letters(self):
        watching = EveryWatch([watch("a", EVEN), watch("a", LAST), watch("b", LAST)], [("a", 5), ("b", "red")])
        self.assertEqual(watching.words(), [("a", "broken"), ("a", "kept"), ("b", "broken")])

    def test_several_places(self):
        watching = EveryWatch((watch("b", EVEN), watch("a", EVEN)), (("a", 1), ("b", 1), ("c", 1)))
        self.assertEqual(watching.words(), [("b", "broken"), ("a", "broken")])
        self.assertIsNone(watching.wrote("a", 5))
        self.assertEqual(watching.words(), [("b", "broken"), ("a", "kept")])
        watching.wrote("b", "red")
        watching.wrote("a", 5)
        self.assertEqual(watching.words(), [("b", "kept"), ("a", "broken")])

    def test_several_watches_of_one_place(self):
        watching = EveryWatch([watch("a", LAST), watch("a", EVER)], [("a", 1)])
        watching.wrote("a", "red")
        self.assertEqual(watching.words(), [("a", "broken"), ("a", "kept")])
        watching.wrote("a", 7)
        self.assertEqual(watching.words(), [("a", "kept"), ("a", "kept")])

    def test_repeated_letters_are_read(self):
        watching = EveryWatch([watch("a", EVEN)], [("a", 0)])
        found = []
        for value in (0, 1, 1, 0):
            watching.wrote("a", value)
            found.append(reports(watching))
        self.assertEqual(found, [["kept"], ["broken"], ["kept"], ["broken"]])


class TestChangeWatch(unittest.TestCase):
    def test_first_letters(self):
        watching = ChangeWatch([watch("a", EVEN), watch("b", LAST)], [("a", 5), ("b", 1)])
        self.assertEqual(watching.words(), [("a", "broken"), ("b", "kept")])

    def test_repeated_letters_are_not_read(self):
        watching = ChangeWatch([watch("a", EVEN), watch("a", EVEN), watch("b", EVEN)], [("a", 0), ("b", 0)])
        self.assertIsNone(watching.wrote("a", 1))
        self.assertEqual(reports(watching), ["broken", "broken", "broken"])
        watching.wrote("a", 2)
        self.assertEqual(reports(watching), ["kept", "kept", "broken"])
        watching.wrote("b", 5)
        watching.wrote("a", 9)
        self.assertEqual(reports(watching), ["kept", "kept", "kept"])
        watching.wrote("a", 0)
        self.assertEqual(reports(watching), ["broken", "broken", "kept"])

    def test_equal_letters_with_others_between_them_are_read(self):
        watching = ChangeWatch([watch("a", EVEN)], [("a", 0)])
        for value in (5, 0, 5):
            watching.wrote("a", value)
        self.assertEqual(reports(watching), ["kept"])


class TestBoth(unittest.TestCase):
    def test_places_without_a_watch(self):
        for kind in (EveryWatch, ChangeWatch):
            watching = kind([watch("a", EVEN)], [("a", 1), ("b", 1)])
            watching.wrote("b", 5)
            watching.wrote("c", 5)
            self.assertEqual(watching.words(), [("a", "broken")])
            self.assertEqual(kind([], [("a", 1)]).words(), [])
            self.assertEqual(kind((), ()).words(), [])

    def test_any_number_of_states(self):
        table = tuple((min(state + 1, 60),) * 6 for state in range(61))
        for kind, wanted in ((EveryWatch, "kept"), (ChangeWatch, "broken")):
            watching = kind([watch("a", ("wish", table, (60,)))], [("a", 1)])
            for _ in range(59):
                self.assertEqual(reports(watching), ["broken"])
                watching.wrote("a", 0)
            self.assertEqual(reports(watching), [wanted])

    def test_lists_are_copied_and_new(self):
        for kind in (EveryWatch, ChangeWatch):
            watches, places = [watch("a", EVEN)], [("a", 1)]
            watching = kind(watches, places)
            watches.append(watch("a", LAST))
            places.clear()
            watching.words().clear()
            self.assertEqual(watching.words(), [("a", "broken")])

    def test_against_the_words(self):
        rng = random.Random(4)
        parted = 0
        for _ in range(300):
            wish = random_wish(rng, 4)
            letters = [rng.choice(VALUES) for _ in range(rng.randrange(1, 9))]
            every = EveryWatch([watch("a", wish)], [("a", letters[0])])
            change = ChangeWatch([watch("a", wish)], [("a", letters[0])])
            for value in letters[1:]:
                every.wrote("a", value)
                change.wrote("a", value)
            made = Wish(wish[1], wish[2])
            left = [value for at, value in enumerate(letters) if at == 0 or atom_of(value) != atom_of(letters[at - 1])]
            self.assertEqual(reports(every), ["kept" if made(letters) else "broken"])
            self.assertEqual(reports(change), ["kept" if made(left) else "broken"])
            if is_still(made):
                self.assertEqual(every.words(), change.words())
            parted += every.words() != change.words()
        self.assertGreater(parted, 10)


if __name__ == "__main__":
    unittest.main()
