"""The faults of the exits part [48], [33]."""

import unittest

from quickways.exitfaults import branch_faults, loop_faults, stale_faults
from tests.helper import PRINT, RETURN, call, fun, lent, lent_param, lit, main, name, places_named, program, start, wait
from tests.helper import worth, worth_param

DEFER = ("defer", "always", ("print", lit(1)))
CLOSED = (PRINT, RETURN)


def defer_name(text):
    return ("defer", "done", ("print", name(text)))


def when(first, second=()):
    return ("if", lit(1), tuple(first), tuple(second))


def loop(count, *rows):
    return ("loop", count, rows)


class TestBranch(unittest.TestCase):
    def faults(self, *rows):
        return [where for rule, where in branch_faults(program(main(*rows)))]

    def test_outside(self):
        self.assertEqual(self.faults(DEFER, when((PRINT,), (PRINT,)), DEFER), [])
        self.assertEqual(self.faults(loop(3, DEFER)), [])
        self.assertEqual(self.faults(when((PRINT,)), loop(1, DEFER), DEFER), [])

    def test_first_list(self):
        self.assertEqual(self.faults(when((DEFER, PRINT, DEFER))), ["main.2", "main.4"])
        self.assertEqual(self.faults(when((DEFER,), (PRINT,))), ["main.2"])
        self.assertEqual(self.faults(when((DEFER,) + CLOSED)), ["main.2"])

    def test_second_list(self):
        self.assertEqual(self.faults(when((), (DEFER,))), ["main.2"])
        self.assertEqual(self.faults(when((PRINT,), (PRINT, DEFER))), ["main.4"])
        self.assertEqual(self.faults(when(CLOSED, (DEFER, PRINT)), DEFER), [])
        self.assertEqual(self.faults(when((when(CLOSED, CLOSED),), (DEFER,))), [])
        self.assertEqual(self.faults(when((when(CLOSED, ()),), (DEFER,))), ["main.5"])

    def test_a_body_that_ends_in_an_if_row(self):
        tree = fun("main", (), when((DEFER, RETURN), (DEFER, RETURN)))
        self.assertEqual(branch_faults(program(tree)), [("exits.branch", "main.2")])

    def test_any_depth(self):
        self.assertEqual(self.faults(loop(1, when((), (DEFER,)))), ["main.3"])
        self.assertEqual(self.faults(when(CLOSED, (when((PRINT,), (DEFER,)),))), ["main.6"])
        self.assertEqual(self.faults(when(CLOSED, (when(CLOSED, (DEFER,)),))), [])
        self.assertEqual(self.faults(when((PRINT,), (when(CLOSED, (DEFER,)),))), ["main.6"])

    def test_several_functions_in_reading_order(self):
        made = program(main(when((DEFER,), (DEFER,)), call("f"), DEFER),
                       fun("f", (), loop(2, when((), (DEFER,))), RETURN))
        self.assertEqual(branch_faults(made),
                         [("exits.branch", "main.2"), ("exits.branch", "main.3"), ("exits.branch", "f.3")])


class TestLoop(unittest.TestCase):
    def faults(self, *rows):
        return [where for rule, where in loop_faults(program(main(*rows)))]

    def test_counts(self):
        self.assertEqual(self.faults(DEFER, loop(1, DEFER), loop(2, PRINT), DEFER), [])
        self.assertEqual(self.faults(loop(2, DEFER)), ["main.2"])
        self.assertEqual(self.faults(loop(3, PRINT, DEFER)), ["main.3"])

    def test_any_depth(self):
        self.assertEqual(self.faults(loop(2, loop(1, DEFER))), ["main.3"])
        self.assertEqual(self.faults(loop(1, loop(3, DEFER), DEFER)), ["main.3"])
        self.assertEqual(self.faults(loop(2, when((PRINT,), (DEFER,)))), ["main.4"])
        self.assertEqual(self.faults(when((loop(2, DEFER),), (loop(1, DEFER),))), ["main.3"])

    def test_several_functions_in_reading_order(self):
        made = program(main(call("f"), loop(2, DEFER, DEFER)), fun("f", (), DEFER, loop(3, loop(2, DEFER)), RETURN))
        self.assertEqual(loop_faults(made), [("exits.loop", "main.3"), ("exits.loop", "main.4"), ("exits.loop", "f.4")])


class TestStale(unittest.TestCase):
    def faults(self, *rows):
        tree = fun("f", (lent_param("p"), worth_param("y")), *rows, RETURN)
        inner = fun("g", (lent_param("q"),), RETURN)
        rest = fun("h", (), RETURN)
        first = main(call("f", lent("a"), worth(lit(1))), call("g", lent("a")), call("h"))
        return [where for rule, where in stale_faults(program(first, tree, inner, rest, places=places_named("a")))]

    def test_literals_and_names_that_nobody_sets(self):
        self.assertEqual(self.faults(DEFER, defer_name("y")), [])
        self.assertEqual(self.faults(("let", "x", None, lit(1)), defer_name("x"), PRINT), [])

    def test_places_and_lent_parameters(self):
        self.assertEqual(self.faults(defer_name("a")), ["f.1"])
        self.assertEqual(self.faults(defer_name("p")), ["f.1"])
        self.assertEqual(self.faults(("defer", "fail", ("set", "y", name("a")))), ["f.1"])
        self.assertEqual(self.faults(("defer", "fail", ("set", "a", name("y")))), [])
        self.assertEqual(self.faults(("defer", "fail", ("set", "p", lit(1)))), [])

    def test_set_behind_and_in_front(self):
        setting = ("set", "y", lit(1))
        self.assertEqual(self.faults(setting, defer_name("y")), [])
        self.assertEqual(self.faults(defer_name("y"), setting), ["f.1"])
        self.assertEqual(self.faults(("loop", 1, (setting, defer_name("y")))), [])

    def test_each_row_that_sets(self):
        for row in (("ask", "y"), ("call", "y", "h", ()), ("defer", "done", ("set", "y", lit(1))),
                    when((), (("set", "y", lit(1)),))):
            self.assertEqual(self.faults(defer_name("y"), row), ["f.1"], row)
        self.assertEqual(self.faults(defer_name("y"), start("t", "h"), ("wait", "y", "t")), ["f.1"])

    def test_each_row_that_does_not_set(self):
        for row in (("call", None, "h", ()), ("call", None, "g", (lent("p"),)), ("print", name("y")),
                    ("narrow", "p", "nat"),
                    ("defer", "done", ("set", "p", name("y"))), ("let", "x", None, name("y"))):
            self.assertNotIn("f.1", self.faults(defer_name("y"), row), row)

    def test_its_own_deed_sets_no_greater_number(self):
        self.assertEqual(self.faults(("defer", "done", ("set", "y", name("y")))), [])

    def test_inside_rows_and_each_once(self):
        setting = ("set", "y", lit(1))
        self.assertEqual(self.faults(loop(2, when((defer_name("y"),), (defer_name("a"),))), setting, setting),
                         ["f.3", "f.4"])

    def test_several_functions_in_reading_order(self):
        tree = fun("f", (lent_param("p"),), defer_name("p"), RETURN)
        made = program(main(defer_name("a"), call("f", lent("a"))), tree, places=places_named("a"))
        self.assertEqual(stale_faults(made), [("exits.stale", "main.1"), ("exits.stale", "f.1")])


if __name__ == "__main__":
    unittest.main()
