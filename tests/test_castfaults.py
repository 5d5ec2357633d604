"""View checks of programs [13] and the faults of the rule `casts.fork` [33]."""

import unittest

from quickways.castfaults import fork_faults
from tests.helper import PRINT, RETURN, call, fun, lent, lent_param, lit, main, place, program, start, wait, worth
from tests.helper import worth_param


def faults(*labels):
    return [("casts.fork", label) for label in labels]


def narrowing(*kinds, param=None):
    """A program whose function f narrows its parameter to these kinds."""
    rows = [("narrow", "p", kind) for kind in kinds]
    return program(main(call("f", lent("a"))), fun("f", (lent_param("p", param),), *rows, RETURN), places=(place("a"),))


class TestNarrowRows(unittest.TestCase):
    def test_one_function(self):
        self.assertEqual(fork_faults(narrowing()), [])
        self.assertEqual(fork_faults(narrowing("nat")), [])
        self.assertEqual(fork_faults(narrowing("small", "nat")), faults("f.2"))
        self.assertEqual(fork_faults(narrowing("nat", "digit", "bit", "num", "nat")), [])
        self.assertEqual(fork_faults(narrowing("nat", "any", "small", "digit", "small")), faults("f.3", "f.5"))
        self.assertEqual(fork_faults(narrowing("word", "nat", "small", "num", "bit")), faults("f.2", "f.3", "f.5"))

    def test_a_kind_that_the_parameter_has_is_no_check(self):
        self.assertEqual(fork_faults(narrowing("nat", "small", param="small")), faults("f.1"))
        self.assertEqual(fork_faults(narrowing("nat", "small", param="digit")), [])
        self.assertEqual(fork_faults(narrowing("word", "small", "bit", param="num")), faults("f.2", "f.3"))
        self.assertEqual(fork_faults(narrowing("word", param="nat")), faults("f.1"))

    def test_rows_inside_rows_and_several_functions(self):
        made = program(
            main(("if", lit(1), (call("f", lent("a")),), (call("g", lent("a")),))),
            fun("f", (lent_param("p"),), ("loop", 2, (PRINT, ("narrow", "p", "small"))), RETURN),
            fun("g", (lent_param("q"),), ("if", lit(0), (("narrow", "q", "digit"),), (("narrow", "q", "nat"),)), RETURN),
            places=(place("a"),),
        )
        self.assertEqual(fork_faults(made), faults("g.3"))

    def test_rows_need_not_be_done_in_any_run(self):
        made = program(
            main(call("f", lent("a"))),
            fun("f", (lent_param("p"),), ("if", lit(0), (("narrow", "p", "small"),), ()), ("narrow", "p", "nat"), RETURN),
            places=(place("a"),),
        )
        self.assertEqual(fork_faults(made), faults("f.3"))


class TestLentArguments(unittest.TestCase):
    def lending(self, kinds, params, first=call):
        """A program that lends places of these kinds to parameters of these kinds."""
        places = [place(f"a{at}", "a" if kind == "word" else 1, kind) for at, kind in enumerate(kinds)]
        args = [lent(f"a{at}") for at in range(len(kinds))]
        row = first("f", *args) if first == call else first("t", "f", *args)
        rows = (row,) if first == call else (row, wait("t"))
        called = fun("f", [lent_param(f"p{at}", kind) for at, kind in enumerate(params)], RETURN)
        return fork_faults(program(main(*rows), called, places=places))

    def test_checks_of_one_row(self):
        for first in (call, start):
            self.assertEqual(self.lending([None, None], ["nat", "small"], first), faults("main.1"))
            self.assertEqual(self.lending(["nat", "small"], [None, None], first), faults("main.1"))
            self.assertEqual(self.lending([None, None, None], ["num", "bit", "word"], first), faults("main.1"))
            self.assertEqual(self.lending([None, None, None], ["small", "nat", "digit"], first), faults("main.1"))
            self.assertEqual(self.lending(["small", "nat", "bit"], [None, None, None], first), faults("main.1"))
            self.assertEqual(self.lending(["nat"], ["small"], first), [])
            self.assertEqual(self.lending([None, None], ["digit", "small"], first), [])

    def test_read_checks_and_write_checks_are_apart(self):
        self.assertEqual(self.lending(["nat", None], [None, "small"]), [])
        self.assertEqual(self.lending(["nat", "small"], ["small", "nat"]), faults("main.1"))
        self.assertEqual(self.lending(["nat", "nat"], ["small", "small"]), [])
        self.assertEqual(self.lending([None, "small"], ["nat", "nat"]), [])
        self.assertEqual(self.lending(["small", "bit"], ["word", None]), [])
        self.assertEqual(self.lending(["small", "word"], ["word", None]), faults("main.1"))

    def test_names_with_one_kind_have_no_checks(self):
        self.assertEqual(self.lending(["nat", "small"], ["nat", "small"]), [])

    def test_several_rows_and_functions(self):
        made = program(
            main(call("f", worth(lit(1)), lent("a")), call("g", lent("b")), call("g", lent("a")), call("h", lent("c"))),
            fun("f", (worth_param("x", "small"), lent_param("p", "nat")), call("g", lent("p")), call("h", lent("p")), RETURN),
            fun("g", (lent_param("q", "digit"),), ("narrow", "q", "word"), RETURN),
            fun("h", (lent_param("r", "small"),), ("narrow", "r", "small"), RETURN),
            places=(place("a"), place("b", 1, "small"), place("c", 1, "nat")),
        )
        # Read checks: main.1 nat, main.2 and main.3 digit, main.4 small, f.1 digit, f.2 small, g.1 word.
        # Write checks: main.4 and f.2 nat, g.1 word.
        self.assertEqual(fork_faults(made), faults("main.4", "f.2", "g.1"))


if __name__ == "__main__":
    unittest.main()
