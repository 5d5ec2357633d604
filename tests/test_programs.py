"""Programs: fields, kinds of names, view checks and replaced rows [8, 9, 12, 13]."""

import unittest

from quickways.errors import BadKind, BadProgram, NoRow
from quickways.programs import Program
from tests.helper import PRINT, RETURN, WISH, call, fun, lent, lent_param, lit, main, name, place, program, start, wait
from tests.helper import watch, worth, worth_param

PLACES = (place("a", 5, "nat"), place("b"))
BODY = (("let", "y", "bit", lit(1)), start("t", "g"), wait("t"), ("let", "z", None, lit(1)), ("narrow", "q", "small"),
        RETURN)
FUNS = (
    main(("let", "x", "word", lit("red")), ("loop", 2, (call("f", worth(name("b")), lent("a"), lent("b")),))),
    fun("f", (worth_param("p", "num"), lent_param("q", "digit"), lent_param("r")), *BODY, result="nat"),
    fun("g", (), RETURN),
)
WATCHES = (watch("a"),)


class ProgramTest(unittest.TestCase):
    def setUp(self):
        self.program = Program(PLACES, FUNS, WATCHES)

    def refused(self, where, call_it, error=NoRow):
        with self.assertRaises(error) as caught:
            call_it()
        told = caught.exception.kind if error is BadKind else caught.exception.where
        self.assertEqual(told, where)


class TestFields(ProgramTest):
    def test_fields(self):
        self.assertEqual(self.program.places, PLACES)
        self.assertEqual(self.program.funs, FUNS)
        self.assertEqual(self.program.watches, WATCHES)
        self.assertEqual(self.program.weight, 1 + 1 + 2 * (1 + (1 + 1 + (2 + 2) + 1 + 1 + 1 + 1)) + 1)
        self.assertEqual(Program.MOST_WEIGHT, 200)

    def test_equal(self):
        self.assertTrue(self.program == Program(PLACES, FUNS, WATCHES))
        others = (Program(PLACES, FUNS, ()), Program(PLACES + (place("c"),), FUNS, WATCHES),
                  Program(PLACES, (main(*FUNS[0][4][:-1], PRINT),) + FUNS[1:], WATCHES),
                  Program((place("a", 5, "nat"), place("b", 1)), FUNS, WATCHES))
        for other in others + (None, 5, "main", (PLACES, FUNS, WATCHES), object()):
            self.assertIs(self.program == other, False)
        self.assertIs(self.program != Program(PLACES, FUNS, WATCHES), False)

    def test_the_error_is_the_conditions(self):
        with self.assertRaises(BadProgram) as caught:
            Program(PLACES, FUNS[:2], WATCHES)
        self.assertEqual((caught.exception.reason, caught.exception.where), ("call", "f.2"))


class TestNames(ProgramTest):
    def test_fun(self):
        for tree in FUNS:
            self.assertEqual(self.program.fun(tree[1]), tree)
        for wrong in ("h", "", "a", "x"):
            self.refused(wrong, lambda: self.program.fun(wrong))

    def test_places(self):
        self.assertEqual(self.program.place_names(), ("a", "b"))
        self.assertEqual(program(main()).place_names(), ())
        for text in ("a", "b"):
            self.assertIs(self.program.is_place(text), True)
        for text in ("x", "q", "main", ""):
            self.assertIs(self.program.is_place(text), False)

    def test_lent(self):
        told = {("f", "q"): True, ("f", "r"): True, ("f", "p"): False, ("f", "y"): False, ("f", "a"): False,
                ("f", "zz"): False, ("main", "q"): False, ("main", "a"): False, ("g", "q"): False, ("h", "q"): False}
        for (text, wanted), answer in told.items():
            self.assertIs(self.program.is_lent(text, wanted), answer)

    def test_kinds(self):
        told = {("main", "a"): "nat", ("main", "b"): "any", ("main", "x"): "word", ("f", "a"): "nat", ("f", "b"): "any",
                ("f", "p"): "num", ("f", "q"): "digit", ("f", "r"): "any", ("f", "y"): "bit", ("f", "z"): "any"}
        for (text, wanted), kind in told.items():
            self.assertEqual(self.program.kind(text, wanted), kind)
        for text, wanted, where in (("h", "a", "h"), ("h", "zz", "h"), ("f", "t", "t"), ("main", "p", "p"),
                                    ("f", "x", "x"), ("f", "g", "g"), ("g", "y", "y"), ("f", "", "")):
            self.refused(where, lambda: self.program.kind(text, wanted))

    def test_results(self):
        self.assertEqual(self.program.result("main"), "any")
        self.assertEqual(self.program.result("f"), "nat")
        self.refused("h", lambda: self.program.result("h"))

    def test_own_names(self):
        self.assertEqual(self.program.own_names("main"), ["x"])
        self.assertEqual(self.program.own_names("f"), ["p", "q", "r", "y", "t", "z"])
        self.program.own_names("f").clear()
        self.assertEqual(len(self.program.own_names("f")), 6)
        self.refused("h", lambda: self.program.own_names("h"))

    def test_rows(self):
        main_rows = FUNS[0][4]
        told = [("main.1", main_rows[0]), ("main.2", main_rows[1]), ("main.3", main_rows[1][2][0]), ("main.4", RETURN)]
        told += [(f"f.{at + 1}", row) for at, row in enumerate(BODY)]
        self.assertEqual(list(self.program.rows()), told + [("g.1", RETURN)])
        self.assertEqual(next(iter(self.program.rows())), told[0])


class TestViewChecks(ProgramTest):
    def test_view_checks(self):
        told = {("any", "nat"): ("nat", None), ("nat", "any"): (None, "nat"), ("nat", "nat"): (None, None),
                ("nat", "small"): ("small", "nat"), ("small", "nat"): ("nat", "small"), ("word", "bit"): ("bit", "word"),
                ("num", "digit"): ("digit", None), ("digit", "num"): (None, "digit"), ("any", "any"): (None, None)}
        for (first, second), checks in told.items():
            self.assertEqual(Program.view_checks(first, second), checks)
            self.assertEqual(self.program.view_checks(first, second), checks)
        for first, second, wrong in (("x", "nat", "x"), ("nat", "x", "x"), ("x", "y", "x"), ("lent", "lent", "lent")):
            self.refused(wrong, lambda: Program.view_checks(first, second), BadKind)

    def test_lend_checks(self):
        self.assertEqual(self.program.lend_checks("main", "a", "f", "q"), ("digit", None))
        self.assertEqual(self.program.lend_checks("main", "a", "f", "r"), (None, "nat"))
        self.assertEqual(self.program.lend_checks("main", "b", "f", "q"), ("digit", None))
        self.assertEqual(self.program.lend_checks("f", "q", "f", "r"), (None, "digit"))
        self.assertEqual(self.program.lend_checks("f", "y", "f", "p"), (None, "bit"))
        for told, wrong in ((("h", "zz", "k", "w"), "h"), (("main", "zz", "k", "w"), "zz"), (("main", "a", "k", "w"), "k"),
                            (("main", "a", "f", "w"), "w"), (("f", "t", "f", "q"), "t"), (("main", "a", "f", "t"), "t")):
            self.refused(wrong, lambda: self.program.lend_checks(*told))

    def test_narrow_checks(self):
        self.assertEqual(self.program.narrow_checks("f", "q", "small"), (None, None))
        self.assertEqual(self.program.narrow_checks("f", "q", "digit"), (None, None))
        self.assertEqual(self.program.narrow_checks("f", "q", "bit"), ("bit", "bit"))
        self.assertEqual(self.program.narrow_checks("f", "q", "word"), ("word", "word"))
        self.assertEqual(self.program.narrow_checks("f", "r", "any"), (None, None))
        self.assertEqual(self.program.narrow_checks("f", "r", "num"), ("num", "num"))
        for told, wrong in ((("h", "zz", "x"), "h"), (("f", "zz", "x"), "zz"), (("f", "t", "nat"), "t")):
            self.refused(wrong, lambda: self.program.narrow_checks(*told))
        self.refused("x", lambda: self.program.narrow_checks("f", "r", "x"), BadKind)


class TestWithRows(ProgramTest):
    def test_new_program(self):
        rows = (FUNS[0][4][1][2][0], PRINT)
        made = self.program.with_rows("main", 3, rows)
        self.assertEqual(made, Program(PLACES, (main(FUNS[0][4][0], ("loop", 2, rows)),) + FUNS[1:], WATCHES))
        self.assertEqual(self.program, Program(PLACES, FUNS, WATCHES))
        self.assertEqual(made.weight, self.program.weight + 2)
        made = self.program.with_rows("f", 5, ())
        self.assertEqual(made.fun("f")[4], BODY[:4] + (RETURN,))
        self.assertEqual(self.program.fun("f")[4], BODY)

    def test_errors_in_order(self):
        self.refused("h", lambda: self.program.with_rows("h", 99, ()))
        for number in (0, 5, -1):
            self.refused(f"main.{number}", lambda: self.program.with_rows("main", number, ()))
        self.refused("f", lambda: self.program.with_rows("main", 2, ()), BadProgram)
        self.refused("g.1", lambda: self.program.with_rows("g", 1, (("print", name("x")), RETURN)), BadProgram)
        with self.assertRaises(BadProgram) as caught:
            self.program.with_rows("main", 4, ())
        self.assertEqual((caught.exception.reason, caught.exception.where), ("close", "main"))


class TestWishes(unittest.TestCase):
    def test_watches_stay_as_they_are(self):
        made = program(main(), places=(place("a"),), watches=(watch("a"), watch("a")))
        self.assertEqual(made.watches, (("watch", "a", WISH), ("watch", "a", WISH)))


if __name__ == "__main__":
    unittest.main()
