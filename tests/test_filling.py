"""Kinds that are left out: fillings, the least one, and trails [67, 68]."""

import itertools
import unittest

from quickways.errors import BadKind, BadProgram, NoRow, TooLarge
from quickways.filling import fill, is_filling, support, with_kinds
from quickways.flows import flows, holders, left_out
from quickways.kinds import KINDS, join, under
from quickways.programs import Program
from tests.helper import written
from tests.randoms import random_programs

# Kinds go around: from x to y and back, and through a call and a lent parameter and back.
CYCLES = written("place a = 1 / place b = 'red / fun main() / let x = 1 / let y = x / set x = y "
                 "/ call x = f(y, lent a) / return x / end "
                 "/ fun f(u, lent p) / set p = u / let z = p / set z = 7 / call g(lent p) / return z / end "
                 "/ fun g(lent q) / set q = -3 / return 0 / end")


def kinds_in(program):
    return dict(holders(program))


def reason(function, *args):
    try:
        function(*args)
    except (BadKind, BadProgram, TooLarge) as why:
        return (type(why), *vars(why).values())
    return None


class TestWithKinds(unittest.TestCase):
    MADE = written("place a = 5 / place b nat = 5 / fun main() / let x = 1 / call f(lent a, x) / return 0 / end "
                   "/ fun f(lent p, q nat) / return 0 / end")

    def test_in_their_order(self):
        self.assertEqual(left_out(self.MADE), [("", "a"), ("main", ""), ("main", "x"), ("f", "p"), ("f", "")])
        made = with_kinds(self.MADE, ["digit", "num", "bit", "small", "word"])
        self.assertEqual([kind for _, kind in holders(made)], ["digit", "nat", "num", "bit", "small", "nat", "word"])
        self.assertEqual(made.funs[0], ("fun", "main", (), "num", (("let", "x", "bit", ("lit", 1)),)
                                        + self.MADE.funs[0][4][1:]))
        self.assertEqual(made.watches, self.MADE.watches)

    def test_none_and_lists_that_are_too_short(self):
        self.assertEqual(with_kinds(self.MADE, []), self.MADE)
        self.assertEqual(with_kinds(self.MADE, [None] * 5), self.MADE)
        made = with_kinds(self.MADE, [None, "num"])
        self.assertEqual([kind for _, kind in holders(made)], [None, "nat", "num", None, None, "nat", None])
        self.assertEqual(with_kinds(with_kinds(self.MADE, [None, "num"]), ["any"]),
                         with_kinds(self.MADE, ["any", "num"]))

    def test_errors_in_their_order(self):
        self.assertEqual(reason(with_kinds, self.MADE, ["word", "nut", "x", None, None, None]), (BadKind, "nut"))
        self.assertEqual(reason(with_kinds, self.MADE, [None, "num", ""]), (BadKind, ""))
        self.assertEqual(reason(with_kinds, self.MADE, ["word"] + [None] * 5), (TooLarge, 5))
        self.assertEqual(reason(with_kinds, self.MADE, ["word"]), (BadProgram, "kind", "a"))
        self.assertEqual(reason(with_kinds, self.MADE, ["any"] * 5), None)
        self.assertEqual(reason(with_kinds, with_kinds(self.MADE, ["any"] * 5), ["any"]), (TooLarge, 0))

    def test_arguments_stay(self):
        kinds = ["any", None]
        with_kinds(self.MADE, kinds)
        self.assertEqual(kinds, ["any", None])


class TestFill(unittest.TestCase):
    def test_cycles(self):
        made = fill(CYCLES)
        wanted = {("", "a"): "small", ("", "b"): "word", ("main", ""): "small", ("main", "x"): "small",
                  ("main", "y"): "small",
                  ("f", "u"): "small", ("f", "p"): "small", ("f", ""): "small", ("f", "z"): "small",
                  ("g", "q"): "small", ("g", ""): "bit"}
        self.assertEqual(kinds_in(made), wanted)
        self.assertIs(is_filling(CYCLES, made), True)

    def test_told_kinds_stay_and_tell(self):
        made = written("place a nat = 5 / fun main() / let x = a / let y word = x / let z = y / return z / end")
        self.assertEqual(kinds_in(fill(made)),
                         {("", "a"): "nat", ("main", ""): "word", ("main", "x"): "nat", ("main", "y"): "word",
                          ("main", "z"): "word"})

    def test_joins(self):
        for first, second, kind in (("5", "-5", "small"), ("50", "-5", "num"), ("50", "1", "nat"), ("'a", "1", "any"),
                                    ("1", "0", "bit"), ("5", "0", "digit")):
            made = written(f"fun main() / let x = {first} / set x = {second} / return 0 / end")
            self.assertEqual(kinds_in(fill(made))[("main", "x")], kind)
        made = written("fun main() / let x = 1 / ask x / return x / end")
        self.assertEqual(kinds_in(fill(made)), {("main", ""): "any", ("main", "x"): "any"})

    def test_nothing_left_out(self):
        made = written("fun main() nat / let x bit = 'a / return x / end")
        self.assertEqual(fill(made), made)
        self.assertIs(is_filling(made, made), True)

    def test_least_of_all_fillings(self):
        tried = 0
        for made in random_programs(51, 80) + random_programs(52, 20, calm=True):
            goals = left_out(made)
            least = kinds_in(fill(made))
            self.assertIs(is_filling(made, fill(made)), True)
            if len(goals) > 3:
                continue
            for kinds in itertools.product(KINDS, repeat=len(goals)):
                full = self.full(made, kinds)
                if full is not None:
                    tried += 1
                    self.assertIs(is_filling(made, full), self.keeps(made, full))
                    if is_filling(made, full):
                        self.assertTrue(all(under(least[goal], kind) for goal, kind in zip(goals, kinds)))
        self.assertGreater(tried, 400)

    def full(self, made, kinds):
        try:
            return with_kinds(made, kinds)
        except BadProgram:
            return None

    def keeps(self, made, full):
        kinds = kinds_in(full)
        goals = left_out(made)
        return all(under(source if isinstance(source, str) else kinds[source], kinds[target])
                   for _, _, source, target in flows(made) if target in goals)


class TestIsFilling(unittest.TestCase):
    MADE = written("place a nat = 5 / fun main() / let x = a / return 0 / end / watch a 000000 good 0")

    def filled(self, *kinds):
        return with_kinds(self.MADE, list(kinds))

    def test_greater_and_lesser_kinds(self):
        self.assertEqual(left_out(self.MADE), [("main", ""), ("main", "x")])
        for kinds, wanted in ((("bit", "nat"), True), (("any", "any"), True), (("num", "num"), True),
                              (("bit", "small"), False), (("word", "nat"), False)):
            self.assertIs(is_filling(self.MADE, self.filled(*kinds)), wanted)

    def test_too_little(self):
        self.assertIs(is_filling(self.MADE, self.filled("any", None)), False)
        self.assertIs(is_filling(self.MADE, self.MADE), False)

    def test_other_programs(self):
        full = self.filled("any", "any")
        places, funs, watches = full.places, full.funs, full.watches
        others = [Program(places, funs, ()), Program((("place", "a", "any", 5),), funs, watches),
                  Program((("place", "a", "nat", 6),), funs, watches),
                  Program(places + (("place", "b", "any", 1),), funs, watches), CYCLES, fill(CYCLES)]
        others.append(full.with_rows("main", 2, (("return", ("lit", 1)),)))
        others.append(full.with_rows("main", 1, (("let", "y", "any", ("name", "a")),)))
        for other in others:
            self.assertIs(is_filling(self.MADE, other), False)
        self.assertIs(is_filling(full, full), True)
        self.assertIs(is_filling(full, self.filled("num", "any")), False)

    def test_flows_to_told_kinds_do_not_matter(self):
        made = written("fun main() bit / let x = 5 / let y bit = x / return x / end")
        self.assertIs(is_filling(made, with_kinds(made, ["digit"])), True)


class TestSupport(unittest.TestCase):
    def join_of(self, program, trails):
        found = None
        for trail in trails:
            source = trail[0][2]
            kind = source if isinstance(source, str) else kinds_in(program)[source]
            found = kind if found is None else join(found, kind)
        return found

    def check(self, program, holder):
        trails = support(program, holder)
        goals = left_out(program)
        known = flows(program)
        for trail in trails:
            self.assertIsInstance(trail, tuple)
            self.assertTrue(all(flow in known for flow in trail))
            self.assertNotIn(trail[0][2], goals)
            self.assertEqual([flow[2] for flow in trail[1:]], [flow[3] for flow in trail[:-1]])
            targets = [flow[3] for flow in trail]
            self.assertEqual((len(set(targets)), targets[-1]), (len(targets), holder))
            self.assertTrue(all(target in goals for target in targets))
        goal = kinds_in(fill(program))[holder]
        self.assertEqual(self.join_of(program, trails), goal)
        self.assertEqual(len(trails), 1 if goal in self.kinds_of_trails(program, holder) else 2)
        return len(trails)

    def kinds_of_trails(self, program, holder):
        """The kinds that come to a holder along flows."""
        goals = left_out(program)
        seen, left, found = {holder}, [holder], set()
        while left:
            target = left.pop()
            for _, _, source, goal in flows(program):
                if goal == target and source in goals and source not in seen:
                    seen.add(source)
                    left.append(source)
                elif goal == target and source not in goals:
                    found.add(source if isinstance(source, str) else kinds_in(program)[source])
        return found

    def test_one_and_two_trails(self):
        made = written("place a nat = 5 / fun main() / let x = a / let y = x / set y = -5 / return y / end")
        flow = {demand[0] + demand[1]: demand for demand in flows(made)}
        self.assertEqual(support(made, ("main", "x")), [(flow["main.1to"],)])
        trails = support(made, ("main", "y"))
        self.assertEqual(sorted(len(trail) for trail in trails), [1, 2])
        self.assertIn((flow["main.1to"], flow["main.2to"]), trails)
        self.assertIn((flow["main.3to"],), trails)
        self.assertEqual(self.check(made, ("main", "")), 2)

    def test_a_trail_that_is_enough(self):
        made = written("fun main() / let x = 1 / set x = 5 / ask x / set x = 'a / return 0 / end")
        self.assertEqual(self.check(made, ("main", "x")), 1)

    def test_all_holders(self):
        counts = [self.check(made, holder) for made in random_programs(53, 120) + [CYCLES] for holder in left_out(made)]
        self.assertEqual(set(counts), {1, 2})

    def test_no_row(self):
        made = written("place a nat = 5 / fun main() nat / let x = a / return 0 / end")
        for holder, where in ((("", "a"), "a"), (("main", ""), ""), (("main", "y"), "y"), (("f", "x"), "x"),
                              (("", "x"), "x")):
            with self.assertRaises(NoRow) as caught:
                support(made, holder)
            self.assertEqual(caught.exception.where, where)

    def test_lists_are_new(self):
        support(CYCLES, ("main", "x")).clear()
        self.assertEqual(len(support(CYCLES, ("main", "x"))), 1)


if __name__ == "__main__":
    unittest.main()
