"""Still wishes and the faults of the watch part [60]."""

import itertools
import unittest

from quickways.errors import TooLarge
from quickways.kinds import SAMPLES, atom_of
from quickways.stillness import is_still, still_faults, stilled, stumble
from quickways.wishes import Wish
from tests.helper import main, places_named, program
from tests.test_wishes import SERIES, cycle, wishes

EVEN = Wish.even().tree()
ALWAYS = Wish.always("nat").tree()


def stumbles(wish, series, at):
    return wish(series) != wish(series[:at] + (series[at],) + series[at:])


def first_stumble(wish, most):
    for length in range(most + 1):
        for series in itertools.product(SAMPLES, repeat=length):
            for at in range(length):
                if stumbles(wish, series, at):
                    return (series, at)
    return None


class TestStill(unittest.TestCase):
    def test_wishes_of_kinds(self):
        for kind in ("any", "nat", "word"):
            for wish in (Wish.always(kind), Wish.ever(kind), Wish.first(kind), Wish.last(kind)):
                self.assertIs(is_still(wish), True)
                self.assertIsNone(stumble(wish))
                self.assertTrue(stilled(wish) == wish)

    def test_example(self):
        self.assertEqual(stumble(Wish.even()), ((-50,), 0))
        self.assertIs(is_still(Wish.even()), False)

    def test_an_index_behind_the_first(self):
        # Two words in a row are too much, and before that nothing matters.
        wish = Wish(((0, 0, 0, 0, 0, 1), (0, 0, 0, 0, 0, 2), (2,) * 6), (0, 1))
        self.assertEqual(stumble(wish), (("a",), 0))
        # One 5 directly behind a 50: only a repeated 50 behind a 5 shows that states differ.
        wish = Wish(((0, 0, 0, 1, 0, 0), (0, 0, 0, 1, 2, 0), (0, 0, 0, 1, 0, 0)), (2,))
        self.assertEqual(stumble(wish), ((5, 50), 1))

    def test_against_all_series(self):
        still = 0
        for wish in wishes(21, 80, 3):
            found = stumble(wish)
            self.assertIs(is_still(wish), found is None)
            first = first_stumble(wish, 3)
            if first is not None:
                self.assertEqual(found, first)
            elif found is not None:
                self.assertGreater(len(found[0]), 3)
                self.assertEqual([at for at in range(len(found[0])) if stumbles(wish, *found[:1], at)][0], found[1])
            still += found is None
        self.assertGreater(still, 0)

    def test_long_ones(self):
        counting = Wish([[min(state + 1, 12)] * 6 for state in range(13)], (12,))
        self.assertEqual(stumble(counting), ((-50,) * 11, 0))
        self.assertIs(is_still(counting), False)


class TestStilled(unittest.TestCase):
    def left(self, series):
        return tuple(value for at, value in enumerate(series) if at == 0 or atom_of(series[at - 1]) != atom_of(value))

    def test_against_all_series(self):
        for wish in wishes(22, 50, 3) + [Wish.even()]:
            made = stilled(wish)
            self.assertIsInstance(made, Wish)
            self.assertTrue(is_still(made))
            self.assertTrue(stilled(made) == made)
            self.assertIs(made == wish, is_still(wish))
            for series in SERIES:
                self.assertIs(made(series), wish(self.left(series)))

    def test_values_of_one_atom(self):
        self.assertIs(stilled(Wish.even())((0, 1, 1, 0)), False)
        self.assertIs(stilled(Wish.even())((0, 2, 9, 5)), True)

    def test_the_wish_stays(self):
        wish = Wish.even()
        stilled(wish)
        stumble(wish)
        self.assertEqual(wish.tree(), EVEN)

    def test_too_large(self):
        self.assertEqual(len(stilled(Wish(*cycle(5, (0,))))), 31)
        for many in (7, 40):
            with self.assertRaises(TooLarge) as caught:
                stilled(Wish(*cycle(many, (0,))))
            self.assertEqual(caught.exception.most, 40)


class TestFaults(unittest.TestCase):
    def faults(self, *watches):
        return still_faults(program(main(), places=places_named("a", "b"),
                                    watches=[("watch",) + watch for watch in watches]))

    def test_in_the_order_of_the_watches(self):
        self.assertEqual(self.faults(), [])
        self.assertEqual(self.faults(("a", ALWAYS), ("b", ALWAYS)), [])
        self.assertEqual(self.faults(("b", EVEN), ("a", EVEN)), [("watch.still", "b"), ("watch.still", "a")])
        self.assertEqual(self.faults(("b", ALWAYS), ("a", EVEN)), [("watch.still", "a")])

    def test_each_once(self):
        other = ("wish", ((1, 0, 0, 0, 0, 0), (0, 1, 1, 1, 1, 1)), (1,))
        self.assertEqual(self.faults(("a", EVEN), ("a", other)), [("watch.still", "a")])
        self.assertEqual(self.faults(("a", EVEN), ("a", ALWAYS)), [("watch.still", "a")])

    def test_states_that_make_no_difference(self):
        # The table moves on for each value, but all of its states are good.
        moving = ("wish", ((1,) * 6, (2,) * 6, (0,) * 6), (0, 1, 2))
        self.assertEqual(self.faults(("a", moving)), [])


if __name__ == "__main__":
    unittest.main()
