"""Wishes: series, least forms and operators [56 to 59], with atoms [4]."""

import itertools
import random
import unittest

from quickways.errors import BadKind, BadWish, TooLarge
from quickways.kinds import KINDS, SAMPLES, atom_of, fits
from quickways.wishes import Wish, difference
from tests.randoms import random_wish

SERIES = [series for length in range(5) for series in itertools.product(SAMPLES, repeat=length)]
SHORT = [series for length in range(4) for series in itertools.product(SAMPLES, repeat=length)]


def reads(table, good, series):
    state = 0
    for value in series:
        state = table[state][atom_of(value)]
    return state in good


def cycle(many, good):
    """A table of so many states, one behind the other in a circle."""
    return [[(state + 1) % many] * 6 for state in range(many)], good


def raised(table, good):
    try:
        Wish(table, good)
    except BadWish as why:
        return why.state
    return None


def wishes(seed, many, most=3):
    rng = random.Random(seed)
    return [Wish(*random_wish(rng, most)[1:]) for _ in range(many)]


class TestReading(unittest.TestCase):
    TABLE = ((0, 1, 2, 0, 1, 2), (1, 1, 1, 2, 0, 0), (2, 0, 2, 1, 2, 1))

    def test_series(self):
        wish = Wish(self.TABLE, (1,))
        for series in SERIES:
            wanted = reads(self.TABLE, (1,), series)
            self.assertIs(wish(series), wanted)
            self.assertIs(wish(list(series)), wanted)
            self.assertIs(series in wish, wanted)
            self.assertIs(list(series) in wish, wanted)

    def test_values_of_one_atom(self):
        wish = Wish(self.TABLE, (1,))
        for values in ((-99, -10, -50), (-9, -1, -5), (0, 1), (2, 9), (10, 99), ("red", "a")):
            self.assertEqual(len({wish([value]) for value in values}), 1)

    def test_the_empty_series(self):
        self.assertIs(Wish(self.TABLE, (0,))(()), True)
        self.assertIs(Wish(self.TABLE, (1, 2))([]), False)
        self.assertIs([] in Wish(self.TABLE, (0,)), True)


class TestBadWishes(unittest.TestCase):
    GOOD = (0, 0, 0, 0, 0, 0)

    def test_states(self):
        for bad in ((0,) * 5, (0,) * 7, (), (0, 0, 0, 0, 0, 2), (-1, 0, 0, 0, 0, 0), (0, "a", 0, 0, 0, 0),
                    (0, None, 0, 0, 0, 0),
                    (0, True, 0, 0, 0, 0), [0, 1, 0, 1, 0], "000000", 7):
            self.assertEqual(raised((self.GOOD, bad), (0,)), 1, bad)
            self.assertEqual(raised((bad, bad), (9,)), 0, bad)
        self.assertIsNone(raised((self.GOOD, (1,) * 6), (0,)))
        self.assertEqual(raised(((1, 0, 0, 0, 0, 0),), ()), 0)

    def test_no_state(self):
        self.assertEqual((raised((), ()), raised([], (0,))), (0, 0))

    def test_good_states(self):
        table = (self.GOOD, (1,) * 6, (2,) * 6)
        for bad in ((3,), (-1,), (0, 0), (1, 0), (0, 2, 1), ("a",), (None,), (0, True), 1, "0"):
            self.assertEqual(raised(table, bad), 3, bad)
        for fine in ((), (0,), (2,), (0, 1, 2), [0, 2]):
            self.assertIsNone(raised(table, fine))

    def test_states_go_first(self):
        self.assertEqual(raised(cycle(50, ())[0] + [()], (7, 7)), 50)
        self.assertEqual(raised(cycle(50, ())[0], (7, 7)), 50)

    def test_40_and_41_states(self):
        self.assertEqual(Wish.MOST, 40)
        self.assertEqual(len(Wish(*cycle(40, (0,)))), 40)
        with self.assertRaises(TooLarge) as caught:
            Wish(*cycle(41, (0,)))
        self.assertEqual(caught.exception.most, 40)

    def test_the_least_form_counts(self):
        table = cycle(40, (0,))[0] + [[39] * 6] * 300
        self.assertEqual(len(Wish(table, (0,))), 40)
        self.assertEqual(len(Wish(*cycle(120, tuple(range(0, 120, 2))))), 2)
        self.assertEqual(len(Wish(*cycle(90, ()))), 1)


class TestLeastForms(unittest.TestCase):
    def test_fields(self):
        wish = Wish([[0, 0, 1, 1, 1, 2], [1, 1, 1, 1, 1, 1], [1, 1, 1, 1, 1, 1]], [1, 2])
        self.assertEqual((wish.table, wish.good), (((0, 0, 1, 1, 1, 1), (1,) * 6), (1,)))
        self.assertEqual(wish.tree(), ("wish", ((0, 0, 1, 1, 1, 1), (1,) * 6), (1,)))
        self.assertEqual(len(wish), 2)

    def test_states_that_are_never_reached(self):
        wish = Wish(((0,) * 6, (0, 1, 2, 0, 1, 2), (2,) * 6), (0, 2))
        self.assertEqual(wish.tree(), ("wish", ((0,) * 6,), (0,)))

    def test_numbers_in_the_order_of_the_first_series(self):
        # The state 3 is reached by -50, the state 1 by 5, the state 2 only by two values.
        table = ((3, 3, 3, 1, 1, 1), (2, 2, 2, 2, 2, 2), (0, 0, 0, 0, 0, 2), (3, 3, 3, 3, 0, 1))
        wish = Wish(table, (1,))
        self.assertEqual(wish.table, ((1, 1, 1, 2, 2, 2), (1, 1, 1, 1, 0, 2), (3,) * 6, (0, 0, 0, 0, 0, 3)))
        self.assertEqual(wish.good, (2,))

    def test_renamed_states(self):
        rng = random.Random(8)
        for _ in range(150):
            _, table, good = random_wish(rng, 5)
            many = len(table)
            order = [0] + rng.sample(range(1, many), many - 1)
            made = [None] * many
            for state, row in enumerate(table):
                made[order[state]] = tuple(order[after] for after in row)
            wish = Wish(table, good)
            other = Wish(made, sorted(order[state] for state in good))
            self.assertEqual((wish.table, wish.good), (other.table, other.good))
            self.assertTrue(wish == other)

    def test_least_and_unique(self):
        for wish in wishes(9, 60, 4):
            self.assertEqual(Wish(wish.table, wish.good).tree(), wish.tree())
            self.assertEqual(list(wish.good), sorted(wish.good))
            firsts = {}
            for series in SERIES:
                state = 0
                for value in series:
                    state = wish.table[state][atom_of(value)]
                firsts.setdefault(state, series)
            self.assertEqual(list(firsts), list(range(len(wish))))
            accepted = {tuple(reads(wish.table, wish.good, first + more) for more in SHORT)
                        for first in firsts.values()}
            self.assertEqual(len(accepted), len(wish))

    def test_equal_wishes(self):
        made = wishes(10, 40, 2)
        for one in made:
            for other in made:
                wanted = all(one(series) == other(series) for series in SERIES)
                self.assertIs(one == other, wanted)
                self.assertIs(one.tree() == other.tree(), wanted)
        self.assertFalse(Wish.even() == Wish.even().tree())
        self.assertFalse(Wish.even() == 2)

    def test_the_table_is_copied(self):
        table, good = [[1] * 6, [0] * 6], [0]
        wish = Wish(table, good)
        table[0][0] = 0
        table.append([0] * 6)
        good.append(1)
        self.assertTrue(wish == Wish.even())
        self.assertEqual(wish.tree(), ("wish", ((1,) * 6, (0,) * 6), (0,)))


class TestDifference(unittest.TestCase):
    def test_examples(self):
        self.assertEqual(difference(Wish.even(), Wish.always("any")), (-50,))
        self.assertEqual(difference(Wish.always("num"), Wish.always("nat")), (-50,))
        self.assertEqual(difference(Wish.always("num"), Wish.always("any")), ("a",))
        self.assertEqual(difference(Wish.always("nat"), Wish.ever("nat")), ())
        self.assertEqual(difference(Wish.first("nat"), Wish.last("nat")), (-50, 1))
        self.assertIsNone(difference(Wish.ever("word"), ~Wish.always("num")))

    def test_against_all_series(self):
        made = wishes(11, 40, 3)
        for one in made:
            for other in made:
                parting = [series for series in SHORT if one(series) != other(series)]
                found = difference(one, other)
                self.assertEqual(found, difference(other, one))
                self.assertIs(found is None, one == other)
                if parting:
                    self.assertEqual(found, parting[0])
                elif found is not None:
                    self.assertGreater(len(found), 3)

    def test_long_ones(self):
        one, other = Wish(*cycle(40, (0,))), Wish(*cycle(39, (0,)))
        self.assertEqual(difference(one, other), (-50,) * 39)


class TestKinds(unittest.TestCase):
    def test_every_kind(self):
        for kind in KINDS:
            for series in SHORT:
                fitting = [fits(value, kind) for value in series]
                self.assertIs(Wish.always(kind)(series), all(fitting))
                self.assertIs(Wish.ever(kind)(series), any(fitting))
                self.assertIs(Wish.first(kind)(series), fitting[:1] == [True])
                self.assertIs(Wish.last(kind)(series), fitting[-1:] == [True])

    def test_even(self):
        for series in SHORT:
            self.assertIs(Wish.even()(series), len(series) in (0, 2))

    def test_bad_kinds(self):
        for make in (Wish.always, Wish.ever, Wish.first, Wish.last):
            for kind in ("", "lent", "Nat", "a"):
                with self.assertRaises(BadKind) as caught:
                    make(kind)
                self.assertEqual(caught.exception.kind, kind)


class TestOperators(unittest.TestCase):
    def test_against_the_series(self):
        made = wishes(12, 14, 3) + [Wish.always("nat"), Wish.ever("word"), Wish.first("bit"), Wish.last("small"),
                                    Wish.even()]
        for one in made:
            self.same(~one, [not one(series) for series in SHORT])
            self.assertTrue(~~one == one)
            for other in made:
                pairs = [(one(series), other(series)) for series in SHORT]
                self.same(one | other, [left or right for left, right in pairs])
                self.same(one & other, [left and right for left, right in pairs])
                self.same(one - other, [left and not right for left, right in pairs])

    def same(self, wish, wanted):
        self.assertIsInstance(wish, Wish)
        self.assertEqual([wish(series) for series in SHORT], wanted)

    def test_the_operands_stay(self):
        one, other = Wish.even(), Wish.ever("nat")
        before = (one.tree(), other.tree())
        _ = (one | other, one & other, one - other, ~one)
        self.assertEqual((one.tree(), other.tree()), before)

    def test_too_large(self):
        seven, six = Wish(*cycle(7, (0,))), Wish(*cycle(6, (0,)))
        five = Wish(*cycle(5, (0,)))
        self.assertEqual(len(five | seven), 35)
        for make in (lambda: six | seven, lambda: six & seven, lambda: six - seven):
            with self.assertRaises(TooLarge) as caught:
                make()
            self.assertEqual(caught.exception.most, 40)
        self.assertEqual(len(Wish(*cycle(40, (0,))) & Wish(*cycle(40, (1,)))), 1)
        self.assertEqual(len(~Wish(*cycle(40, (0,)))), 40)


if __name__ == "__main__":
    unittest.main()
