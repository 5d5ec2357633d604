"""The fourteen conditions of programs [10, 11], with the weights of rows [12]."""

import unittest

from tests.helper import PRINT, RETURN, STATE, WISH, add, broken, call, deep, fun, lent, lent_param, lit, main, name
from tests.helper import place, places_named, program, start, wait, watch, worth, worth_param

LET = ("let", "x", None, lit(0))
CLOSING = ("if", lit(1), (RETURN,), (PRINT, RETURN))


def leaf(text, *params):
    """A function that only returns."""
    return fun(text, params, RETURN)


class ConditionTest(unittest.TestCase):
    def good(self, *funs, places=(), watches=()):
        self.assertIsNone(broken(*funs, places=places, watches=watches))

    def bad(self, reason, where, *funs, places=(), watches=()):
        self.assertEqual(broken(*funs, places=places, watches=watches), (reason, where))


class TestMany(ConditionTest):
    def test_places(self):
        self.good(main(), places=places_named("a", "b", "c", "d"))
        self.bad("many", "", main(), places=places_named("a", "b", "c", "d", "e"))

    def test_functions(self):
        calls = [call(text) for text in "abcde"]
        self.good(main())
        self.good(main(*calls), *[leaf(text) for text in "abcde"])
        self.bad("many", "", main(*calls), *[leaf(text) for text in "abcdef"])
        self.bad("many", "")

    def test_watches(self):
        self.good(main(), places=places_named("a"), watches=(watch("a"), watch("a")))
        self.bad("many", "", main(), places=places_named("a"), watches=(watch("a"), watch("a"), watch("a")))

    def test_parameters(self):
        params = [worth_param(text) for text in "pqrs"]
        args = [worth(lit(1))] * 4
        self.good(main(call("f", *args[:3])), leaf("f", *params[:3]))
        self.bad("many", "f", main(call("f", *args)), leaf("f", *params))

    def test_rows(self):
        self.good(main(*[PRINT] * 15))
        self.bad("many", "main", main(*[PRINT] * 16))
        self.good(main(*[PRINT] * 5, ("if", lit(1), (PRINT,) * 4, (PRINT,) * 5)))
        self.bad("many", "main", main(*[PRINT] * 6, ("if", lit(1), (PRINT,) * 4, (PRINT,) * 5)))

    def test_depth_of_rows(self):
        self.good(main(("loop", 1, (("if", lit(1), (PRINT,), ()),))))
        inner = ("if", lit(1), (), (("loop", 1, (PRINT,)),))
        self.bad("many", "main.5", main(PRINT, ("loop", 1, (inner,))))

    def test_depth_of_expressions(self):
        self.good(main(("print", deep(3))))
        rows = (("let", "x", None, deep(4)), ("set", "x", deep(4)), ("print", deep(4)), ("return", deep(4)),
                ("if", deep(4), (), ()), call("f", worth(lit(1)), worth(deep(4))), start("t", "f", worth(deep(4))))
        for row in rows:
            self.bad("many", "main.2", main(PRINT, row))
        self.bad("many", "main.1", main(("print", ("same", lit(1), deep(3)))))

    def test_one_function_after_the_other(self):
        deep_row = ("print", deep(4))
        self.bad("many", "main.2", main(PRINT, deep_row), fun("f", (), *[PRINT] * 17))
        self.bad("many", "f", main(call("f"), PRINT), fun("f", (), deep_row, *[PRINT] * 16))
        self.bad("many", "f.1", main(), fun("f", (), deep_row), leaf("g", *[worth_param("p")] * 4))
        self.bad("many", "main.2", main(PRINT, deep_row, ("loop", 1, (deep_row,))))


class TestNames(ConditionTest):
    def test_each_kind_of_name(self):
        for wrong in ("", "lent", "any", "A", "x_", "abcdefg", "1a"):
            self.bad("name", wrong, main(), places=places_named("a", wrong))
            self.bad("name", wrong, main(), leaf(wrong))
            self.bad("name", wrong, main(), leaf("f", worth_param("p"), lent_param(wrong)))
            self.bad("name", wrong, main(("let", wrong, None, lit(1))))
            self.bad("name", wrong, main(start(wrong, "f")))

    def test_order(self):
        self.bad("name", "P1", main(("let", "X", None, lit(1))), places=places_named("P1", "P2"))
        self.bad("name", "X", main(("let", "X", None, lit(1))), leaf("F"))
        self.bad("name", "F", main(), leaf("F", worth_param("Q")))
        self.bad("name", "Q", main(), fun("f", (worth_param("Q"),), ("let", "X", None, lit(1)), RETURN))
        self.bad("name", "T", main(("loop", 1, (start("T", "f"),)), ("let", "X", None, lit(1))))


class TestTwice(ConditionTest):
    def test_shared_names(self):
        self.bad("twice", "a", main(), places=places_named("a", "b", "a"))
        self.bad("twice", "f", main(), leaf("f"), leaf("f"))
        self.bad("twice", "main", main(), leaf("main"))
        self.bad("twice", "f", main(), leaf("f"), places=places_named("f"))

    def test_own_names(self):
        self.bad("twice", "a", main(("let", "a", None, lit(1))), places=places_named("a"))
        self.bad("twice", "f", main(("let", "f", None, lit(1))), leaf("f"))
        self.bad("twice", "main", main(("let", "main", None, lit(1))))
        self.bad("twice", "p", main(), leaf("f", worth_param("p"), lent_param("p")))
        self.bad("twice", "p", main(), fun("f", (worth_param("p"),), ("let", "p", None, lit(1)), RETURN))
        self.bad("twice", "x", main(LET, LET))
        self.bad("twice", "x", main(LET, start("x", "f"), wait("x")), leaf("f"))
        self.bad("twice", "t", main(start("t", "f"), wait("t"), start("t", "f"), wait("t")), leaf("f"))

    def test_order(self):
        self.bad("twice", "f", main(LET, LET), leaf("f"), leaf("f"))
        self.bad("twice", "a", main(), leaf("f"), leaf("f"), places=places_named("a", "a"))
        self.bad("twice", "x", main(LET, LET), leaf("f", worth_param("p"), worth_param("p")))
        self.bad("twice", "y", main(LET, ("let", "y", None, lit(1)), ("let", "y", None, lit(1)), LET))

        rows = (LET, ("let", "a", None, lit(1)), LET)
        self.bad("twice", "a", main(*rows), places=places_named("a"))

    def test_names_of_other_functions_may_be_used_again(self):
        self.good(main(LET, call("f", worth(lit(1)))), fun("f", (worth_param("x"),), RETURN))


class TestMain(ConditionTest):
    def test_main(self):
        self.bad("main", "f", leaf("f"), leaf("main"))
        self.bad("main", "main", leaf("main", worth_param("p")))
        self.bad("main", "main", leaf("main", lent_param("p")))


class TestValue(ConditionTest):
    def test_first_values(self):
        for value in (-99, 0, 99, "abcdef", "a"):
            self.good(main(), places=(place("a", value),))
        for value in (-100, 100, "", "abcdefg", "A", "x1"):
            self.bad("value", "b", main(), places=(place("a"), place("b", value)))

    def test_literals(self):
        self.good(main(("print", add(lit(99), lit(-99)))))
        self.good(main(("let", "x1", None, lit("red")), ("print", add(lit(1), name("x1")))))
        rows = (("let", "x", None, lit(100)), ("set", "x", lit("")), ("print", add(lit(1), lit(-100))),
                ("return", lit(100)), ("if", lit(100), (), ()), call("f", worth(lit(1)), worth(lit(100))),
                start("t", "f", worth(lit(100))), ("defer", "done", ("print", lit(100))),
                ("defer", "done", ("set", "x", lit("red1"))))
        for row in rows:
            self.bad("value", "main.2", main(PRINT, row))

    def test_loop_counts(self):
        for count in (1, 2, 3):
            self.good(main(("loop", count, (PRINT,))))
        for count in (-1, 0, 4, 100):
            self.bad("value", "main.1", main(("loop", count, (PRINT,))))

    def test_order(self):
        wrong = ("print", lit(100))
        self.bad("value", "a", main(wrong), places=(place("a", 100), place("b", 100)))
        self.bad("value", "main.1", main(("loop", 4, (wrong,))), fun("f", (), wrong, RETURN))
        self.bad("value", "main.2", main(("loop", 3, (wrong,)), wrong))
        self.bad("value", "f.1", main(), fun("f", (), wrong, RETURN), fun("g", (), wrong, RETURN))


class TestKind(ConditionTest):
    def test_places(self):
        self.good(main(), places=(place("a", 5, "digit"), place("b", "red", "word"), place("c", -1, None)))
        self.bad("kind", "a", main(), places=(place("a", 5, "int"),))
        self.bad("kind", "a", main(), places=(place("a", 5, "lent"),))
        self.bad("kind", "b", main(), places=(place("a", 5), place("b", 10, "digit"), place("c", 10, "digit")))
        self.bad("kind", "a", main(), places=(place("a", "red", "num"),))
        self.bad("kind", "a", main(), places=(place("a", 5, "word"),))

    def test_functions(self):
        self.good(main(call("f", worth(lit(1)))), fun("f", (worth_param("p", "nat"),), RETURN, result="word"))
        self.bad("kind", "f", main(), leaf("f", worth_param("p", "nat"), lent_param("q", "x")))
        self.bad("kind", "f", main(), leaf("f", worth_param("p", "")))
        self.bad("kind", "f", main(), fun("f", (), RETURN, result="x"))
        self.bad("kind", "main", fun("main", (), RETURN, result="result"))

    def test_rows(self):
        self.good(main(("let", "x", "bit", lit(1))))
        self.bad("kind", "main.2", main(PRINT, ("let", "x", "x", lit(1))))
        self.bad("kind", "f.1", main(), fun("f", (lent_param("p"),), ("narrow", "p", "x"), RETURN))

    def test_order(self):
        wrong = ("let", "x", "x", lit(1))
        self.bad("kind", "b", main(wrong), places=(place("a"), place("b", 5, "x"), place("c", 5, "x")))
        self.bad("kind", "main.1", main(wrong), fun("f", (), RETURN, result="x"))
        self.bad("kind", "f", main(), fun("f", (), wrong, RETURN, result="x"))


class TestLet(ConditionTest):
    def test_depth_of_let_rows(self):
        self.good(main(PRINT, LET))
        self.bad("let", "main.2", main(("loop", 1, (LET,))))
        self.bad("let", "main.3", main(("if", lit(1), (PRINT, LET), ())))
        self.bad("let", "main.3", main(("if", lit(1), (), (PRINT, LET)), ("loop", 1, (("let", "y", None, lit(1)),))))
        self.bad("let", "f.2", main(), fun("f", (), ("loop", 1, (LET,)), RETURN))


class TestUnknown(ConditionTest):
    def test_what_can_be_used(self):
        rows = (LET, ("set", "x", add(name("a"), add(name("p"), name("q")))), ("set", "a", name("x")),
                ("set", "p", lit(1)), ("set", "q", lit(1)), ("ask", "p"), ("narrow", "q", "nat"), RETURN)
        called = fun("f", (worth_param("p"), lent_param("q")), *rows)
        self.good(main(call("f", worth(name("a")), lent("a"))), called, places=places_named("a"))

    def test_reading(self):
        rows = (("let", "y", None, name("x")), ("set", "y", name("x")), ("print", add(lit(1), name("x"))),
                ("return", name("x")), ("if", name("x"), (), ()), call("f", worth(name("x"))),
                ("defer", "done", ("print", name("x"))))
        for row in rows:
            self.bad("unknown", "main.2", main(PRINT, row))

    def test_setting(self):
        rows = (("set", "x", lit(1)), ("ask", "x"), ("call", "x", "f", ()), ("wait", "x", "t"),
                ("defer", "done", ("set", "x", lit(1))))
        for row in rows:
            self.bad("unknown", "main.2", main(PRINT, row))

    def test_lending(self):
        called = leaf("f", lent_param("q"))
        self.good(main(call("f", lent("a"))), called, places=places_named("a"))
        self.bad("unknown", "main.1", main(call("f", lent("a"))), called)
        self.bad("unknown", "main.2", main(LET, call("f", lent("x"))), called)
        self.bad("unknown", "main.2", main(LET, start("t", "f", lent("x")), wait("t")), called)
        middle = fun("g", (worth_param("p"),), call("f", lent("p")), RETURN)
        self.bad("unknown", "g.1", main(call("g", worth(lit(1)))), middle, called)
        middle = fun("g", (lent_param("p"),), call("f", lent("p")), RETURN)
        self.good(main(call("g", lent("a"))), middle, called, places=places_named("a"))

    def test_narrowing(self):
        self.bad("unknown", "main.1", main(("narrow", "a", "nat")), places=places_named("a"))
        self.bad("unknown", "main.2", main(LET, ("narrow", "x", "nat")))
        called = fun("f", (worth_param("p"),), ("narrow", "p", "nat"), RETURN)
        self.bad("unknown", "f.1", main(call("f", worth(lit(1)))), called)
        self.bad("unknown", "main.1", main(("narrow", "z", "nat")))

    def test_locals_count_from_the_next_row_on(self):
        self.good(main(LET, ("loop", 1, (("print", name("x")),))))
        self.bad("unknown", "main.1", main(("let", "x", None, name("x"))))
        self.bad("unknown", "main.1", main(("print", name("x")), LET))
        self.bad("unknown", "f.1", main(LET, call("f")), fun("f", (), ("print", name("x")), RETURN))

    def test_tasks_and_functions_are_no_values(self):
        self.bad("unknown", "main.2", main(start("t", "f"), ("print", name("t")), wait("t")), leaf("f"))
        self.bad("unknown", "main.2", main(start("t", "f"), ("set", "t", lit(1)), wait("t")), leaf("f"))
        self.bad("unknown", "main.1", main(("print", name("f"))), leaf("f"))

    def test_watches(self):
        self.bad("unknown", "b", main(), places=places_named("a"), watches=(watch("a"), watch("b")))
        self.bad("unknown", "main", main(), watches=(watch("main"), watch("b")))
        self.bad("unknown", "main.1", main(("ask", "z")), watches=(watch("b"),))


class TestCall(ConditionTest):
    def test_functions_that_stand_later(self):
        self.bad("call", "main.1", main(call("g")), leaf("f"))
        self.bad("call", "main.2", main(PRINT, call("main")))
        self.bad("call", "f.1", main(call("f")), fun("f", (), call("f"), RETURN))
        self.bad("call", "g.1", main(call("g")), leaf("f"), fun("g", (), start("t", "f"), wait("t"), RETURN))
        self.bad("call", "main.1", main(call("a")), places=places_named("a"))
        self.good(main(call("g")), fun("g", (), start("t", "f"), wait("t"), RETURN), leaf("f"))

    def test_arguments(self):
        called = leaf("f", worth_param("p"), lent_param("q"))
        places = places_named("a")
        for make in (lambda *args: (call("f", *args),), lambda *args: (start("t", "f", *args), wait("t"))):
            self.good(main(*make(worth(name("a")), lent("a"))), called, places=places)
            for args in ((), (worth(lit(1)),), (worth(lit(1)), worth(lit(1))), (lent("a"), lent("a")),
                         (lent("a"), worth(lit(1))), (worth(lit(1)), lent("a"), lent("a"))):
                self.bad("call", "main.1", main(*make(*args)), called, places=places)


class TestPair(ConditionTest):
    def test_start_rows(self):
        self.good(main(start("t", "f"), PRINT, wait("t")), leaf("f"))
        self.bad("pair", "main.1", main(start("t", "f")), leaf("f"))
        self.bad("pair", "main.2", main(PRINT, start("t", "f"), wait("t"), wait("t")), leaf("f"))
        self.bad("pair", "main.1", main(start("t", "f"), wait("u"), start("u", "f"), wait("u")), leaf("f"))
        self.bad("pair", "main.1", main(start("t", "f"), ("loop", 1, (wait("t"),))), leaf("f"))
        self.bad("pair", "main.2", main(("loop", 1, (start("t", "f"),)), wait("t")), leaf("f"))
        self.bad("pair", "main.2", main(("if", lit(1), (start("t", "f"),), (wait("t"),))), leaf("f"))

    def test_wait_rows(self):
        self.bad("pair", "main.1", main(wait("t")))
        self.bad("pair", "main.1", main(wait("t"), start("t", "f"), wait("t")), leaf("f"))
        self.bad("pair", "main.3", main(start("t", "f"), ("if", lit(1), (wait("t"),), ()), wait("t")), leaf("f"))

    def test_several_tasks(self):
        self.good(main(start("t", "f"), start("u", "f"), wait("t"), wait("u")), leaf("f"))
        self.good(main(start("t", "f"), start("u", "f"), wait("u"), wait("t")), leaf("f"))
        self.good(main(("loop", 2, (start("t", "f"), wait("t"))), ("if", lit(1), (), (start("u", "f"), wait("u")))),
                  leaf("f"))
        self.bad("pair", "main.2", main(start("t", "f"), start("u", "f"), wait("t")), leaf("f"))
        self.bad("pair", "main.1", main(start("t", "f"), start("u", "f"), wait("u")), leaf("f"))

    def test_order(self):
        rows = (("loop", 1, (PRINT, wait("t"))), wait("u"))
        self.bad("pair", "main.3", main(*rows), fun("f", (), wait("t"), RETURN))
        self.bad("pair", "main.1", main(wait("u"), ("loop", 1, (wait("t"),))))


class TestClose(ConditionTest):
    def test_good(self):
        self.good(fun("main", (), RETURN))
        self.good(fun("main", (), PRINT, CLOSING))
        self.good(main(("if", lit(1), (RETURN,), ())))
        self.good(main(("loop", 2, (("if", lit(1), (), (RETURN,)),))))
        self.good(main(("loop", 2, ()), ("if", lit(1), (), ())))

    def test_rows_behind_a_closing_row(self):
        self.bad("close", "main.1", main(RETURN))
        self.bad("close", "main.2", main(PRINT, CLOSING))
        self.bad("close", "main.2", main(("if", lit(1), (RETURN, PRINT), ())))
        self.bad("close", "main.3", main(("if", lit(1), (PRINT,), (CLOSING, PRINT))))

    def test_loops(self):
        self.bad("close", "main.2", main(PRINT, ("loop", 1, (PRINT, RETURN))))
        self.bad("close", "main.1", main(("loop", 1, (CLOSING,))))
        self.bad("close", "main.1", fun("main", (), ("loop", 1, (RETURN,))))

    def test_bodies(self):
        self.bad("close", "main", fun("main", ()))
        self.bad("close", "main", fun("main", (), PRINT))
        self.bad("close", "main", fun("main", (), ("if", lit(1), (RETURN,), ())))
        self.bad("close", "f", main(call("f")), fun("f", (), PRINT))

    def test_order(self):
        self.bad("close", "main.1", fun("main", (), RETURN, PRINT))
        self.bad("close", "main.2", main(("if", lit(1), (("loop", 1, (RETURN,)),), ()), CLOSING))
        self.bad("close", "main.1", main(CLOSING, ("loop", 1, (RETURN,))))
        self.bad("close", "main", fun("main", (), PRINT), fun("f", (), RETURN, RETURN))
        self.bad("close", "f.1", main(call("f"), call("g")), fun("f", (), RETURN, RETURN), fun("g", ()))


class TestUnused(ConditionTest):
    def test_unused(self):
        self.bad("unused", "f", main(), leaf("f"))
        self.bad("unused", "g", main(call("f"), call("h")), leaf("f"), leaf("g"), leaf("h"))
        self.bad("unused", "f", main(call("g")), leaf("f"), leaf("g"), leaf("h"))
        self.good(main(("loop", 1, (start("t", "f"), wait("t")))), leaf("f"))
        self.bad("unused", "f", main(), fun("f", (), call("g"), RETURN), leaf("g"))


class TestWish(ConditionTest):
    def wish(self, table, good):
        return broken(main(), places=places_named("a", "b"), watches=(watch("b"), watch("a", ("wish", table, good))))

    def test_good(self):
        last = (5, 5, 5, 5, 5, 5)
        for table, good in (((STATE,), ()), ((STATE,), (0,)), ((STATE,) * 5 + (last,), (0, 1, 2, 3, 4, 5)),
                            ((STATE, STATE), (1,))):
            self.assertIsNone(self.wish(table, good))

    def test_states(self):
        for table in ((), (STATE,) * 7, (STATE[:5],), (STATE + (0,),), ((0, 0, 0, 0, 0, 1),), ((-1, 0, 0, 0, 0, 0),),
                      (STATE, ()), (STATE, (0, 0, 0, 2, 0, 0))):
            self.assertEqual(self.wish(table, ()), ("wish", "a"))

    def test_good_states(self):
        for good in ((2,), (-1,), (0, 0), (1, 0), (0, 1, 1), (0, 2)):
            self.assertEqual(self.wish((STATE, STATE), good), ("wish", "a"))

    def test_order(self):
        wrong = ("wish", (), ())
        self.bad("wish", "b", main(), places=places_named("a", "b"), watches=(watch("b", wrong), watch("a", wrong)))


class TestWeight(ConditionTest):
    def weight(self, *funs, places=()):
        return program(*funs, places=places).weight

    def test_rows(self):
        self.assertEqual(self.weight(fun("main", (), RETURN)), 2)
        self.assertEqual(self.weight(main(LET, ("set", "x", lit(1)), ("ask", "x"), PRINT)), 6)
        self.assertEqual(self.weight(main(("defer", "done", ("print", lit(1))))), 4)
        self.assertEqual(self.weight(main(("loop", 3, (PRINT, ("loop", 2, (PRINT, PRINT)))))), 2 + 3 * 5)
        self.assertEqual(self.weight(main(("loop", 3, ()))), 2)
        self.assertEqual(self.weight(main(("if", lit(1), (PRINT,) * 3, (PRINT,)))), 2 + 4)
        self.assertEqual(self.weight(main(("if", lit(1), (), (PRINT, PRINT)))), 2 + 3)
        called = fun("f", (lent_param("p"),), ("narrow", "p", "nat"), PRINT, RETURN)
        places = places_named("a")
        self.assertEqual(self.weight(main(call("f", lent("a"))), called, places=places), 2 + 1 + 4)
        self.assertEqual(self.weight(main(start("t", "f", lent("a")), wait("t")), called, places=places), 2 + 2 + 4 + 1)

    def test_calls_of_calls(self):
        made = (main(call("f"), call("g")), fun("f", (), call("g"), call("g"), RETURN), fun("g", (), PRINT, RETURN))
        self.assertEqual(self.weight(*made), 2 + (1 + 10) + (1 + 3))

    def test_bound(self):
        self.assertEqual(self.weight(main(HEAVY, PRINT, PRINT, PRINT), HEAVY_FUN), 200)
        self.bad("weight", "", main(HEAVY, PRINT, PRINT, PRINT, PRINT), HEAVY_FUN)
        self.bad("weight", "", main(HEAVY, HEAVY), HEAVY_FUN)


HEAVY = ("loop", 3, (call("heavy"),))
HEAVY_FUN = fun("heavy", (), ("loop", 3, (("loop", 3, (PRINT,) * 6),)), ("loop", 3, (PRINT, PRINT)), PRINT, PRINT, RETURN)


class TestOrder(ConditionTest):
    def test_of_two_broken_conditions_the_earlier_one_counts(self):
        steps = [
            ("many", "", dict(places=places_named("a", "b", "c", "d", "e"))),
            ("name", "A", dict(places=places_named("A"))),
            ("twice", "a", dict(places=places_named("a", "a"))),
            ("main", "f", dict(funs=(leaf("f"),))),
            ("value", "v", dict(places=(place("v", 100),))),
            ("kind", "k", dict(places=(place("k", 1, "x"),))),
            ("let", "main.2", dict(rows=(("loop", 1, (LET,)),))),
            ("unknown", "main.1", dict(rows=(("ask", "u"),))),
            ("call", "main.1", dict(rows=(call("none"),))),
            ("pair", "main.1", dict(rows=(wait("t"),))),
            ("close", "main.1", dict(rows=(CLOSING,))),
            ("unused", "u", dict(later=(leaf("u"),))),
            ("wish", "w", dict(places=places_named("w"), watches=(watch("w", ("wish", (), ())),))),
            ("weight", "", dict(rows=(HEAVY, HEAVY), later=(HEAVY_FUN,))),
        ]
        for at, (reason, where, one) in enumerate(steps):
            self.assertEqual(broken_of(one)[0], reason)
            self.assertEqual(broken_of(one)[1], where)
            for _, _, other in steps[at + 1:]:
                with self.subTest(reason, other=other):
                    self.assertEqual(broken_of(one, other)[0], reason)


def broken_of(*steps):
    """What a program breaks that has all these wrong things."""
    places = sum([step.get("places", ()) for step in steps], ())
    rows = sum([step.get("rows", ()) for step in steps], ())
    later = sum([step.get("later", ()) for step in steps], ())
    watches = sum([step.get("watches", ()) for step in steps], ())
    first = sum([step.get("funs", ()) for step in steps], ())
    return broken(*first, main(*rows), *later, places=places, watches=watches)


if __name__ == "__main__":
    unittest.main()
