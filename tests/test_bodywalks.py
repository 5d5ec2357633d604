"""Walks, their beginnings, and the deeds that are due behind them [44 to 47]."""

import unittest

from quickways.bodywalks import chart_due, count_walks, parted_walk, probe_walk, stack_due, visit_bounds, walks
from quickways.charts import chart_of
from quickways.errors import NoRow, TooLarge
from quickways.exitfaults import branch_faults, loop_faults
from quickways.trees import numbered_rows, size_of
from tests.helper import PRINT, RETURN, fun, lit
from tests.randoms import random_functions, random_programs

DEFER = ("defer", "always", ("print", lit(1)))


def when(first, second=()):
    return ("if", lit(1), tuple(first), tuple(second))


def loop(count, *rows):
    return ("loop", count, rows)


def made(*rows):
    return fun("f", (), *rows)


def list_walks(rows, number):
    """All walks through a rows list: what they visit, and whether they have come to a return row."""
    found = [((), False)]
    for row in rows:
        found = [(met + more, over or ended) for met, over in found
                 for more, ended in ([((), False)] if over else row_walks(row, number))]
        number += size_of((row,))
    return found


def row_walks(row, number):
    if row[0] == "loop":
        found = [((), False)]
        for _ in range(row[1]):
            found = [(met + more, over or ended) for met, over in found
                     for more, ended in ([((), False)] if over else list_walks(row[2], number + 1))]
        return found
    if row[0] == "if":
        second = number + 1 + size_of(row[2])
        inside = list_walks(row[2], number + 1) + list_walks(row[3], second)
        return [((number,) + met, over) for met, over in inside]
    return [((number,), row[0] == "return")]


def all_walks(tree):
    return [met for met, over in list_walks(tree[4], 1)]


def beginnings(tree):
    return sorted({walk[:end] for walk in all_walks(tree) for end in range(1, len(walk) + 1)})


def told(function, *args, **more):
    """What a generator yields, and the error with which it ends."""
    found = []
    try:
        for one in function(*args, **more):
            found.append(one)
    except TooLarge as why:
        return found, why.most
    return found, None


FUNCTIONS = random_functions(31, 120) + [
    made(RETURN),
    made(when((RETURN,), (RETURN,))),
    made(when((PRINT, when((RETURN,), (DEFER, RETURN))), (loop(2, DEFER, when((), (PRINT,))), RETURN))),
    made(loop(3, when((DEFER,), (PRINT,)), when((RETURN,))), RETURN),
    made(loop(2, loop(3, DEFER, when((), (RETURN,)))), DEFER, RETURN),
    made(loop(2), when(()), DEFER, RETURN),
]


class TestWalks(unittest.TestCase):
    def test_no_choice(self):
        self.assertEqual(list(walks(made(PRINT, DEFER, RETURN))), [(1, 2, 3)])
        self.assertEqual(list(walks(made(loop(3, PRINT, DEFER), RETURN))), [(2, 3, 2, 3, 2, 3, 4)])
        self.assertEqual(list(walks(made(loop(2, loop(2, PRINT)), RETURN))), [(3, 3, 3, 3, 4)])
        self.assertEqual(list(walks(made(loop(3), RETURN))), [(2,)])

    def test_if_rows(self):
        self.assertEqual(list(walks(made(when((PRINT,)), RETURN))), [(1, 2, 3), (1, 3)])
        self.assertEqual(list(walks(made(when((PRINT,), (PRINT, PRINT)), RETURN))), [(1, 2, 5), (1, 3, 4, 5)])
        self.assertEqual(list(walks(made(when((), (PRINT,)), RETURN))), [(1, 3), (1, 2, 3)])

    def test_equal_tuples_of_different_walks(self):
        self.assertEqual(list(walks(made(when(()), RETURN))), [(1, 2), (1, 2)])
        self.assertEqual(count_walks(made(when(()), when(()), RETURN)), 4)

    def test_if_rows_inside_loop_rows_choose_anew(self):
        found = list(walks(made(loop(2, when((PRINT,))), RETURN)))
        self.assertEqual(found, [(2, 3, 2, 3, 4), (2, 3, 2, 4), (2, 2, 3, 4), (2, 2, 4)])

    def test_return_rows(self):
        self.assertEqual(list(walks(made(when((RETURN,)), RETURN))), [(1, 2), (1, 3)])
        self.assertEqual(list(walks(made(when((RETURN,), (RETURN,))))), [(1, 2), (1, 3)])
        found = list(walks(made(loop(2, PRINT, when((), (RETURN,))), RETURN)))
        self.assertEqual(found, [(2, 3, 2, 3, 5), (2, 3, 2, 3, 4), (2, 3, 4)])

    def test_against_the_words(self):
        for tree in FUNCTIONS:
            self.assertEqual(list(walks(tree, most=5000)), all_walks(tree))
            self.assertEqual(count_walks(tree), len(all_walks(tree)))

    def test_many_walks(self):
        tree = made(loop(3, loop(3, *[when(())] * 13)), RETURN)
        self.assertEqual(count_walks(tree), 2 ** 117)
        found, most = told(walks, tree)
        self.assertEqual((len(found), most), (200, 200))

    def test_most(self):
        tree = made(when((PRINT,)), when((PRINT,)), RETURN)
        every = all_walks(tree)
        self.assertEqual(len(every), 4)
        self.assertEqual(told(walks, tree, most=4), (every, None))
        for most in (0, 1, 3):
            self.assertEqual(told(walks, tree, most=most), (every[:most], most))
        self.assertEqual(told(walks, made(RETURN), most=1), ([(1,)], None))
        self.assertEqual(told(walks, made(RETURN), most=0), ([], 0))
        self.assertEqual(told(walks, made(*[when(())] * 8, RETURN))[1], 200)


class TestDue(unittest.TestCase):
    def test_stack_due(self):
        tree = made(DEFER, loop(2, DEFER, when((PRINT,), (DEFER,))), RETURN)
        self.assertEqual(stack_due(tree, (1,)), ())
        self.assertEqual(stack_due(tree, (1, 3)), (1,))
        self.assertEqual(stack_due(tree, (1, 3, 4, 6, 3)), (6, 3, 1))
        self.assertEqual(stack_due(tree, (1, 3, 4, 5, 3, 4, 6, 7)), (6, 3, 3, 1))

    def test_other_tuples(self):
        tree = made(DEFER, DEFER, PRINT, RETURN)
        self.assertEqual(stack_due(tree, ()), ())
        self.assertEqual(stack_due(tree, (2, 1, 1, 4, 2)), (1, 1, 2))
        self.assertEqual(stack_due(tree, (4, 3)), ())
        self.assertEqual(stack_due(tree, (3, 2)), ())

    def test_chart_due(self):
        tree = made(DEFER, loop(2, DEFER, when((PRINT,), (DEFER,))), RETURN)
        self.assertEqual([chart_due(tree, number) for number in range(1, 8)], list(chart_of(tree)))
        self.assertEqual(chart_due(tree, 7), (6, 3, 1))

    def test_no_row(self):
        tree = made(DEFER, RETURN)
        for met, where in (((1, 3, 9), "f.3"), ((0,), "f.0"), ((1, 2, 5), "f.5"), ((-1, 8), "f.-1")):
            with self.assertRaises(NoRow) as caught:
                stack_due(tree, met)
            self.assertEqual(caught.exception.where, where)
        for function in (chart_due, visit_bounds, probe_walk):
            for number in (0, 3, -1):
                with self.assertRaises(NoRow) as caught:
                    function(tree, number)
                self.assertEqual(caught.exception.where, f"f.{number}")


class TestVisitBounds(unittest.TestCase):
    def test_straight(self):
        self.assertEqual(visit_bounds(made(DEFER, PRINT, RETURN), 1), ((0, 0), (1, 1), (1, 1)))
        self.assertEqual(visit_bounds(made(DEFER, PRINT, RETURN), 3), ((0, 0), (0, 0), (0, 0)))

    def test_loop_rows(self):
        tree = made(loop(3, DEFER, PRINT), RETURN)
        self.assertEqual(visit_bounds(tree, 2), (None, (0, 2), (1, 3), (3, 3)))
        self.assertEqual(visit_bounds(tree, 1), (None, (0, 0), (0, 0), (0, 0)))

    def test_if_rows(self):
        tree = made(loop(2, when((DEFER,), (PRINT,))), RETURN)
        self.assertEqual(visit_bounds(tree, 3), (None, (0, 1), (0, 1), (0, 1), (0, 2)))
        tree = made(when((DEFER, RETURN)), PRINT, RETURN)
        self.assertEqual(visit_bounds(tree, 2), ((0, 0), (0, 0), (1, 1), (0, 0), (0, 0)))

    def test_against_the_words(self):
        for tree in FUNCTIONS:
            known = beginnings(tree)
            for target, _, _ in numbered_rows(tree):
                wanted = []
                for number, _, row in numbered_rows(tree):
                    counts = [met[:-1].count(target) for met in known if met[-1] == number]
                    wanted.append(None if row[0] == "loop" else (min(counts), max(counts)))
                self.assertEqual(visit_bounds(tree, target), tuple(wanted))


class TestProbeWalks(unittest.TestCase):
    def test_each_row(self):
        tree = made(when((PRINT, when((RETURN,), (PRINT,))), (loop(2, DEFER),)), when((RETURN,)), RETURN)
        first = (1, 2, 3, 5, 8, 10)
        second = (1, 7, 7, 8, 10)
        wanted = [first, second, second, second, second, first, first, first, first, first]
        self.assertEqual([probe_walk(tree, number) for number in range(1, 11)], wanted)

    def test_a_list_that_closes(self):
        tree = made(when((DEFER, RETURN), (DEFER,)), RETURN)
        self.assertEqual([probe_walk(tree, number) for number in range(1, 6)], [(1, 4, 5)] * 5)

    def test_against_the_words(self):
        for made_program in random_programs(32, 60):
            branch = [where for _, where in branch_faults(made_program)]
            faulty = branch + [where for _, where in loop_faults(made_program)]
            for tree in made_program.funs:
                for number, _, row in numbered_rows(tree):
                    walk = probe_walk(tree, number)
                    self.assertIn(walk, all_walks(tree))
                    if row[0] == "defer":
                        times = 0 if f"{tree[1]}.{number}" in branch else self.product(tree, number)
                        self.assertEqual(walk.count(number), times)
                        if f"{tree[1]}.{number}" in faulty:
                            self.assertNotEqual(stack_due(tree, walk), chart_due(tree, walk[-1]))

    def product(self, tree, number):
        found = 1
        for at, _, row in numbered_rows(tree):
            if row[0] == "loop" and at < number <= at + size_of(row[2]):
                found *= row[1]
        return found


class TestPartedWalks(unittest.TestCase):
    def test_examples(self):
        self.assertIsNone(parted_walk(made(DEFER, when((PRINT,)), loop(1, DEFER), RETURN)))
        self.assertIsNone(parted_walk(made(when((RETURN,), (DEFER,)), RETURN)))
        self.assertIsNotNone(parted_walk(made(when((DEFER,)), RETURN)))
        self.assertIsNotNone(parted_walk(made(loop(2, DEFER), RETURN)))

    def test_against_the_words(self):
        parted = 0
        for tree in FUNCTIONS:
            known = beginnings(tree)
            differing = [met for met in known if stack_due(tree, met) != chart_due(tree, met[-1])]
            found = parted_walk(tree)
            if differing:
                parted += 1
                self.assertIn(found, differing)
            else:
                self.assertIsNone(found)
        self.assertTrue(10 < parted < len(FUNCTIONS) - 10, parted)

    def test_faults_and_walks(self):
        for made_program in random_programs(33, 60):
            faulty = [where.split(".")[0] for _, where in branch_faults(made_program) + loop_faults(made_program)]
            for tree in made_program.funs:
                self.assertEqual(parted_walk(tree) is None, tree[1] not in faulty)


if __name__ == "__main__":
    unittest.main()
