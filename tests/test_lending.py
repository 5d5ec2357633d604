"""The faults of the rules of loans [41]."""

import unittest

from quickways.lending import alias_faults, name_faults, task_faults, watched_faults
from quickways.reach import Reach
from tests.helper import PRINT, RETURN, call, fun, lent, lent_param, lit, main, name, places_named, program, start, wait
from tests.helper import watch, worth, worth_param

PLACES = places_named("a", "b", "c")
ONE = (lent_param("p"),)
TWO = (lent_param("p"), lent_param("q"))


def made(*funs, watches=()):
    return program(*funs, places=PLACES, watches=watches)


def leaf(text, params, *rows):
    return fun(text, params, *rows, RETURN)


class TestAlias(unittest.TestCase):
    def labels(self, *funs):
        told = alias_faults(made(*funs))
        self.assertEqual({rule for rule, _ in told} - {"loans.alias"}, set())
        return [label for _, label in told]

    def test_one_row(self):
        called = leaf("f", TWO)
        self.assertEqual(self.labels(main(call("f", lent("a"), lent("a"))), called), ["main.1"])
        self.assertEqual(self.labels(main(start("t", "f", lent("b"), lent("b")), wait("t")), called), ["main.1"])
        self.assertEqual(self.labels(main(call("f", lent("a"), lent("b"))), called), [])
        three = leaf("f", (lent_param("p"), worth_param("x"), lent_param("q")))
        self.assertEqual(self.labels(main(call("f", lent("c"), worth(name("c")), lent("c"))), three), ["main.1"])
        self.assertEqual(self.labels(main(call("f", lent("a"), worth(name("a")), lent("c"))), three), [])

    def test_names_count_and_not_places(self):
        called = fun("f", TWO, call("g", lent("p"), lent("q")), call("g", lent("q"), lent("q")), RETURN)
        self.assertEqual(self.labels(main(call("f", lent("a"), lent("a"))), called, leaf("g", TWO)), ["main.1", "f.2"])
        self.assertEqual(self.labels(main(call("f", lent("a"), lent("b")), call("f", lent("b"), lent("a"))), called,
                                     leaf("g", TWO)), ["f.2"])

    def test_reading_order(self):
        twice = call("f", lent("a"), lent("a"))
        rows = (("if", lit(1), (PRINT, twice), (("loop", 2, (twice,)),)), PRINT, twice)
        self.assertEqual(self.labels(main(*rows), leaf("f", TWO)), ["main.3", "main.5", "main.7"])


class TestName(unittest.TestCase):
    def labels(self, *funs):
        program_made = made(*funs)
        told = name_faults(program_made, Reach(program_made))
        self.assertEqual({rule for rule, _ in told} - {"loans.name"}, set())
        return [label for _, label in told]

    def test_one_row(self):
        for row in (("set", "a", lit(1)), ("print", name("a")), ("ask", "a"), ("defer", "done", ("set", "a", lit(1))),
                    ("loop", 1, (("print", name("a")),))):
            called = leaf("f", ONE, row)
            self.assertEqual(self.labels(main(call("f", lent("a"))), called), ["main.1"], row)
            self.assertEqual(self.labels(main(start("t", "f", lent("a")), wait("t")), called), ["main.1"], row)
            self.assertEqual(self.labels(main(call("f", lent("b"))), called), [], row)
        self.assertEqual(self.labels(main(call("f", lent("a"))), leaf("f", ONE, ("set", "p", name("p")))), [])

    def test_functions_that_it_calls(self):
        middle = leaf("f", ONE, call("g"))
        self.assertEqual(self.labels(main(call("f", lent("a")), call("f", lent("b"))), middle, leaf("g", (), ("ask", "b"))),
                         ["main.2"])
        middle = leaf("f", ONE, call("g", lent("c")))
        self.assertEqual(self.labels(main(call("f", lent("a")), call("f", lent("c"))), middle, leaf("g", ONE)), ["main.2"])

    def test_lent_parameters_are_no_names_of_places(self):
        last = leaf("g", ONE, ("set", "a", lit(1)))
        self.assertEqual(self.labels(main(call("f", lent("a"))), leaf("f", ONE, call("g", lent("p"))), last), ["main.1"])
        self.assertEqual(self.labels(main(call("f", lent("b"))), leaf("f", ONE, call("g", lent("p"))), last), [])

    def test_one_of_several_and_reading_order(self):
        called = leaf("f", TWO, ("set", "b", lit(1)))
        rows = (("loop", 2, (call("f", lent("a"), lent("b")),)), call("f", lent("b"), lent("b")), call("f", lent("a"), lent("c")))
        self.assertEqual(self.labels(main(*rows), called), ["main.2", "main.3"])


class TestWatched(unittest.TestCase):
    def labels(self, *funs, places="a"):
        told = watched_faults(made(*funs, watches=[watch(text) for text in places]))
        self.assertEqual({rule for rule, _ in told} - {"loans.watched"}, set())
        return [label for _, label in told]

    def test_rows(self):
        called = leaf("f", TWO)
        self.assertEqual(self.labels(main(call("f", lent("a"), lent("b"))), called), ["main.1"])
        self.assertEqual(self.labels(main(call("f", lent("b"), lent("a"))), called), ["main.1"])
        self.assertEqual(self.labels(main(start("t", "f", lent("a"), lent("a")), wait("t")), called, places="aa"), ["main.1"])
        self.assertEqual(self.labels(main(call("f", lent("b"), lent("c"))), called), [])
        self.assertEqual(self.labels(main(call("f", lent("b"), lent("c"))), called, places=""), [])
        self.assertEqual(self.labels(main(call("f", lent("b"), lent("c"))), called, places="ac"), ["main.1"])
        three = leaf("f", (worth_param("x"), lent_param("p")))
        self.assertEqual(self.labels(main(("set", "a", lit(1)), call("f", worth(name("a")), lent("b"))), three), [])

    def test_by_the_name_of_the_place_alone(self):
        rows = (call("f", lent("a")), ("loop", 2, (call("f", lent("b")), call("f", lent("a")))))
        self.assertEqual(self.labels(main(*rows), leaf("f", ONE, call("g", lent("p"))), leaf("g", ONE)), ["main.1", "main.4"])
        self.assertEqual(self.labels(main(*rows), leaf("f", ONE, call("g", lent("p"))), leaf("g", ONE), places="b"), ["main.3"])


class TestTask(unittest.TestCase):
    def labels(self, *funs):
        program_made = made(*funs)
        told = task_faults(program_made, Reach(program_made))
        self.assertEqual({rule for rule, _ in told} - {"loans.task"}, set())
        return [label for _, label in told]

    def beside(self, *rows, lending="a", called=leaf("f", ONE)):
        """The faults of a start row that lends a place, with these rows in its region."""
        return self.labels(main(start("t", "f", lent(lending)), *rows, wait("t"), ("print", name("a"))), called, leaf("g", ONE))

    def test_a_row_that_uses_what_the_start_row_lends(self):
        for row in (("print", name("a")), ("set", "a", lit(1)), ("ask", "a"), call("g", lent("a")),
                    ("if", lit(1), (), (("loop", 2, (("print", name("a")),)),))):
            self.assertEqual(self.beside(PRINT, row, call("g", lent("c"))), ["main.1"], row)
            self.assertEqual(self.beside(row, call("g", lent("c")), lending="b"), [], row)
        self.assertEqual(self.beside(call("g", lent("c"))), [])
        self.assertEqual(self.beside(call("g", lent("c")), PRINT, lending="c"), ["main.1"])

    def test_a_row_that_lends_what_the_start_row_uses(self):
        called = leaf("f", (), ("print", name("a")))
        rows = lambda text: (start("t", "f"), ("loop", 1, (call("g", lent(text)),)), wait("t"))
        self.assertEqual(self.labels(main(*rows("a")), called, leaf("g", ONE)), ["main.1"])
        self.assertEqual(self.labels(main(*rows("b")), called, leaf("g", ONE)), [])
        worths = leaf("f", (worth_param("x"),))
        row = start("t", "f", worth(name("a")))
        self.assertEqual(self.labels(main(row, call("g", lent("a")), wait("t")), worths, leaf("g", ONE)), ["main.1"])
        self.assertEqual(self.labels(main(row, ("set", "a", lit(1)), call("g", lent("b")), wait("t")), worths, leaf("g", ONE)), [])

    def test_what_functions_lend_counts(self):
        called = leaf("f", (), call("g", lent("b")))
        self.assertEqual(self.labels(main(start("t", "f"), ("print", name("b")), wait("t")), called, leaf("g", ONE)), ["main.1"])
        self.assertEqual(self.labels(main(start("t", "f"), ("print", name("a")), wait("t")), called, leaf("g", ONE)), [])
        for text, labels in (("c", []), ("b", ["main.1"])):
            rows = (start("t", "h", lent(text)), call("f"), wait("t"))
            self.assertEqual(self.labels(main(*rows), called, leaf("g", ONE), leaf("h", ONE)), labels)

    def test_points_of_parameters_count(self):
        # What g uses are all places that are ever lent to it.
        called = leaf("f", (), call("g", lent("b")))
        rows = (start("t", "g", lent("c")), call("f"), wait("t"))
        self.assertEqual(self.labels(main(*rows), called, leaf("g", ONE)), ["main.1"])
        middle = fun("f", TWO, start("t", "g", lent("p")), ("print", name("q")), wait("t"), RETURN)
        self.assertEqual(self.labels(main(call("f", lent("a"), lent("b"))), middle, leaf("g", ONE)), [])
        self.assertEqual(self.labels(main(call("f", lent("a"), lent("b")), call("f", lent("b"), lent("c"))), middle,
                                     leaf("g", ONE)), ["f.1"])

    def test_rows_outside_the_region(self):
        self.assertEqual(self.labels(main(("print", name("a")), start("t", "f", lent("a")), wait("t"), ("set", "a", lit(1))),
                                     leaf("f", ONE)), [])
        self.assertEqual(self.labels(main(call("f", lent("a")), ("print", name("a"))), leaf("f", ONE)), [])

    def test_reading_order(self):
        inner = (start("u", "f", lent("a")), ("ask", "a"), wait("u"))
        rows = (("loop", 2, inner), start("t", "f", lent("b")), ("set", "b", lit(1)), wait("t"))
        self.assertEqual(self.labels(main(*rows), leaf("f", ONE)), ["main.2", "main.5"])
        rows = (start("t", "f", lent("a")), start("u", "f", lent("a")), wait("u"), wait("t"))
        self.assertEqual(self.labels(main(*rows), leaf("f", ONE)), ["main.1"])


if __name__ == "__main__":
    unittest.main()
