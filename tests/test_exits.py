"""The two ways of deferred deeds [42, 43] and charts [44]."""

import unittest

from quickways.charts import ChartExits, chart_of, show_chart
from quickways.piles import StackExits
from tests.helper import PRINT, RETURN, fun, lit, name

ONE = ("print", lit(1))
TWO = ("set", "x", name("y"))
DEFER = ("defer", "done", ONE)
OTHER = ("defer", "fail", TWO)
ALWAYS = ("defer", "always", ONE)
TREE = fun("f", (), DEFER, ("if", lit(1), (OTHER,), (("loop", 2, (ALWAYS, PRINT)),)), DEFER, RETURN)


class TestStackExits(unittest.TestCase):
    def test_order_and_room(self):
        exits = StackExits()
        self.assertEqual(exits.room, 0)
        self.assertIsNone(exits.note("0:0", 2, "done", ONE, 1))
        self.assertIsNone(exits.note("0:0", 1, "fail", TWO, "red"))
        exits.note("0:0", 2, "done", ONE, 5)
        self.assertEqual(exits.room, 3)
        told = [(2, "done", ONE, (5,)), (1, "fail", TWO, ("red",)), (2, "done", ONE, (1,))]
        self.assertEqual(exits.due("0:0", TREE, 1), told)
        self.assertEqual((exits.room, exits.due("0:0", TREE, 9)), (0, []))

    def test_function_and_position_do_not_matter(self):
        for tree, position in ((TREE, 0), (fun("g", ()), 7), (TREE, 99)):
            exits = StackExits()
            exits.note("0:0", 3, "always", ONE, -5)
            self.assertEqual(exits.due("0:0", tree, position), [(3, "always", ONE, (-5,))])

    def test_frames_are_apart(self):
        exits = StackExits()
        exits.note("0:0", 1, "done", ONE, 1)
        exits.note("0.1:0", 2, "done", ONE, 2)
        exits.note("0:0", 3, "done", ONE, 3)
        self.assertEqual(exits.due("0:1", TREE, 9), [])
        self.assertEqual(exits.due("0.1:0", TREE, 9), [(2, "done", ONE, (2,))])
        self.assertEqual(exits.room, 2)
        self.assertEqual(exits.due("0:0", TREE, 9), [(3, "done", ONE, (3,)), (1, "done", ONE, (1,))])

    def test_objects_are_apart(self):
        one, two = StackExits(), StackExits()
        one.note("0:0", 1, "done", ONE, 1)
        self.assertEqual((one.room, two.room), (1, 0))
        self.assertEqual(two.due("0:0", TREE, 9), [])
        self.assertEqual(one.room, 1)

    def test_a_stack_is_filled_anew(self):
        exits = StackExits()
        exits.note("0:0", 1, "done", ONE, 1)
        exits.due("0:0", TREE, 9)
        exits.note("0:0", 4, "done", ONE, 4)
        self.assertEqual((exits.room, exits.due("0:0", TREE, 9)), (1, [(4, "done", ONE, (4,))]))


class TestChartExits(unittest.TestCase):
    def test_due(self):
        exits = ChartExits()
        deeds = {1: (1, "done", ONE, ()), 3: (3, "fail", TWO, ()), 5: (5, "always", ONE, ()), 7: (7, "done", ONE, ())}
        told = {0: (), 1: (), 2: (1,), 3: (1,), 4: (3, 1), 5: (3, 1), 6: (5, 3, 1), 7: (5, 3, 1), 8: (7, 5, 3, 1), 99: (7, 5, 3, 1)}
        for position, numbers in told.items():
            self.assertEqual(exits.due("0:0", TREE, position), [deeds[number] for number in numbers])
        self.assertEqual(exits.due("0:0", fun("f", (), PRINT, RETURN), 2), [])

    def test_nothing_is_kept(self):
        exits = ChartExits()
        self.assertIsNone(exits.note("0:0", 2, "done", ONE, 1))
        self.assertEqual((exits.room, exits.due("0:0", TREE, 1)), (0, []))
        self.assertEqual(exits.due("0:0", TREE, 2), exits.due("0:1", TREE, 2))
        self.assertEqual(len(exits.due("0:0", TREE, 2)), 1)


class TestCharts(unittest.TestCase):
    def test_chart_of(self):
        self.assertEqual(chart_of(fun("f", ())), ())
        self.assertEqual(chart_of(fun("f", (), PRINT, RETURN)), ((), ()))
        told = ((), (1,), (1,), (3, 1), (3, 1), (5, 3, 1), (5, 3, 1), (7, 5, 3, 1))
        self.assertEqual(chart_of(TREE), told)

    def test_charts_and_exits_agree(self):
        for number, entry in enumerate(chart_of(TREE), 1):
            self.assertEqual(tuple(deed[0] for deed in ChartExits().due("0:0", TREE, number)), entry)

    def test_show_chart(self):
        told = ["  1 defer...", "  2 if......   1", "  3 defer...   1", "  4 loop....   3   1", "  5 defer...   3   1",
                "  6 print...   5   3   1", "  7 defer...   5   3   1", "  8 return..   7   5   3   1"]
        self.assertEqual(list(show_chart(TREE)), told)
        self.assertEqual(list(show_chart(fun("f", ()))), [])

    def test_example(self):
        tree = fun("f", (), PRINT, DEFER, DEFER, RETURN)
        self.assertEqual(list(show_chart(tree))[2], "  3 defer...   2")

    def test_every_row_and_numbers_of_two_digits(self):
        rows = (("let", "x", None, lit(1)), ("set", "x", lit(1)), ("ask", "x"), ("call", None, "g", ()), ("start", "t", "g", ()),
                ("wait", None, "t"), ("narrow", "p", "nat"), PRINT, DEFER, DEFER, OTHER, RETURN)
        told = ["  1 let.....", "  2 set.....", "  3 ask.....", "  4 call....", "  5 start...", "  6 wait....", "  7 narrow..",
                "  8 print...", "  9 defer...", " 10 defer...   9", " 11 defer...  10   9", " 12 return..  11  10   9"]
        self.assertEqual(list(show_chart(fun("f", (), *rows))), told)

    def test_numbers_of_three_digits(self):
        lines = list(show_chart(fun("f", (), *[DEFER] * 102)))
        self.assertTrue(lines[101].startswith("102 defer... 101 100  99  98"))


if __name__ == "__main__":
    unittest.main()
