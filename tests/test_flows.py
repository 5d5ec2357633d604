"""Holders, kinds of expressions, demands, flows and casts [63 to 66]."""

import unittest

from quickways.casting import blame_of, casts
from quickways.errors import NoRow
from quickways.flows import demands, flows, holders, kind_of, left_out
from tests.helper import add, lit, name, written

MANY = written("place b nat = 5 / place a = 'red / fun main() / let y num = 1 / let z = 2 / call f(1, lent a) "
               "/ set z = y "
               "/ start t = g() / wait t / return 0 / end / fun f(x, lent p small) digit / let u = 1 / return 0 / end "
               "/ fun g() / return 0 / end")
EXAMPLE = written("place a = 0 / fun main() / let y = 1 / let x = 0 / call x = f(y + 1, lent a) / return 0 / end "
                  "/ fun f(p, lent q) / return 0 / end")


class TestHolders(unittest.TestCase):
    def test_reading_order(self):
        wanted = [(("", "b"), "nat"), (("", "a"), None), (("main", ""), None), (("main", "y"), "num"),
                  (("main", "z"), None),
                  (("f", "x"), None), (("f", "p"), "small"), (("f", ""), "digit"), (("f", "u"), None),
                  (("g", ""), None)]
        self.assertEqual(holders(MANY), wanted)
        self.assertEqual(left_out(MANY), [holder for holder, kind in wanted if kind is None])

    def test_nothing_left_out(self):
        made = written("place a any = 0 / fun main() any / let x any = 0 / return x / end")
        self.assertEqual(left_out(made), [])
        self.assertEqual([kind for _, kind in holders(made)], ["any"] * 3)

    def test_lists_are_new(self):
        holders(MANY).clear()
        left_out(MANY).clear()
        flows(MANY).clear()
        casts(MANY).clear()
        self.assertEqual((len(holders(MANY)), len(left_out(MANY)), len(flows(MANY)) > 0), (10, 6, True))


class TestKindOf(unittest.TestCase):
    def test_literals(self):
        for value, kind in ((1, "bit"), (0, "bit"), (5, "digit"), (50, "nat"), (-5, "small"), (-50, "num"),
                            ("red", "word")):
            self.assertEqual(kind_of(MANY, "main", lit(value)), kind)

    def test_names(self):
        for fun, text, kind in (("main", "y", "num"), ("main", "z", "any"), ("main", "b", "nat"), ("f", "a", "any"),
                                ("f", "x", "any"),
                                ("f", "p", "small"), ("f", "u", "any")):
            self.assertEqual(kind_of(MANY, fun, name(text)), kind)

    def test_operators(self):
        for word, kind in (("add", "num"), ("sub", "num"), ("less", "bit"), ("same", "bit")):
            self.assertEqual(kind_of(MANY, "f", (word, lit("red"), add(lit(1), name("x")))), kind)

    def test_no_row(self):
        for fun, expr, where in (("h", name("q"), "h"), ("h", lit(1), "h"), ("main", name("x"), "x"),
                                 ("f", name("y"), "y"),
                                 ("main", name("t"), "t"), ("main", name("f"), "f"), ("f", name(""), ""),
                                 ("", lit(1), "")):
            with self.assertRaises(NoRow) as caught:
                kind_of(MANY, fun, expr)
            self.assertEqual(caught.exception.where, where)


class TestDemands(unittest.TestCase):
    def of(self, rows, rest=""):
        """The demands of the rows of main behind two let rows, without their labels and that of the return row."""
        made = written(f"place a nat = 0 / fun main() / let x = 1 / let y = 'red / {rows} / return 0 / end{rest}")
        found = [demand for demand in demands(made) if demand[0].startswith("main.") and int(demand[0][5:]) > 2]
        return [demand[1:] for demand in found][:-1]

    def test_example(self):
        wanted = [("main.3", "1l", ("main", "y"), "num"), ("main.3", "1r", "bit", "num"),
                  ("main.3", "to1", "num", ("f", "p")),
                  ("main.3", "in2", ("", "a"), ("f", "q")), ("main.3", "out2", ("f", "q"), ("", "a")),
                  ("main.3", "to", ("f", ""), ("main", "x"))]
        found = list(demands(EXAMPLE))
        self.assertEqual([demand for demand in found if demand[0] == "main.3"], wanted)

    def test_let_and_set(self):
        self.assertEqual(self.of("let z = y"), [("to", ("main", "y"), ("main", "z"))])
        self.assertEqual(self.of("set x = 'red"), [("to", "word", ("main", "x"))])
        self.assertEqual(self.of("set a = -50"), [("to", "num", ("", "a"))])

    def test_operators(self):
        inner = [("el", ("main", "x"), "num"), ("er", "bit", "num"), ("to", "num", ("main", "y"))]
        self.assertEqual(self.of("set y = x - 1"), inner)
        self.assertEqual(self.of("set y = x + 1"), inner)
        self.assertEqual(self.of("set y = x < 1"), inner[:2] + [("to", "bit", ("main", "y"))])
        self.assertEqual(self.of("set y = x == 1"), [("to", "bit", ("main", "y"))])

    def test_nested_operands(self):
        wanted = [("ell", ("", "a"), "num"), ("elr", "word", "num"), ("el", "num", "num"), ("erl", "digit", "num"),
                  ("err", "nat", "num"),
                  ("er", "bit", "num"), ("to", "num", ("main", "x"))]
        self.assertEqual(self.of("set x = (a + 'b) - (5 < 50)"), wanted)
        wanted = [("ell", ("main", "x"), "num"), ("elr", "bit", "num")]
        self.assertEqual(self.of("print (x + 1) == (y == 2)"), wanted)
        self.assertEqual(self.of("print (x == y) + 0"), [("el", "bit", "num"), ("er", "bit", "num")])

    def test_print_ask_and_return(self):
        self.assertEqual(self.of("print y"), [])
        self.assertEqual(self.of("print y - 1"), [("el", ("main", "y"), "num"), ("er", "bit", "num")])
        self.assertEqual(self.of("ask y"), [("to", "any", ("main", "y"))])
        self.assertEqual(self.of("ask a"), [("to", "any", ("", "a"))])
        made = written("fun main() nat / return 5 < 1 / end")
        wanted = [("main.1", "el", "digit", "num"), ("main.1", "er", "bit", "num"),
                  ("main.1", "to", "bit", ("main", ""))]
        self.assertEqual(list(demands(made)), wanted)

    def test_if_and_loop(self):
        self.assertEqual(self.of("if y / end"), [("to", ("main", "y"), "bit")])
        wanted = [("el", ("main", "x"), "num"), ("er", "digit", "num"), ("to", "bit", "bit"),
                  ("to", "any", ("main", "x")),
                  ("to", "word", ("main", "y"))]
        self.assertEqual(self.of("loop 2 / if x < 2 / ask x / else / set y = 'b / end / end"), wanted)

    def test_defer(self):
        self.assertEqual(self.of("defer done print y"), [])
        self.assertEqual(self.of("defer fail set x = a"), [("to", ("", "a"), ("main", "x"))])
        self.assertEqual(self.of("defer always set a = 50"), [("to", "nat", ("", "a"))])

    def test_narrow(self):
        made = written("place a = 0 / fun main() / call f(lent a) / return 0 / end / fun f(lent p) "
                       "/ narrow p to nat / return 0 / end")
        found = [demand for demand in demands(made) if demand[0] == "f.1"]
        self.assertEqual(found, [("f.1", "in", ("f", "p"), "nat"), ("f.1", "out", ("f", "p"), "nat")])

    def test_call_start_and_wait(self):
        rest = " / fun f(lent p, q, lent r) / call g(lent r, 1) / return 0 / end / fun g(lent u, v) / return 0 / end"
        arguments = [("in1", ("", "a"), ("f", "p")), ("out1", ("f", "p"), ("", "a")), ("2l", ("main", "x"), "num"),
                     ("2r", ("main", "y"), "num"),
                     ("to2", "bit", ("f", "q")), ("in3", ("", "a"), ("f", "r")), ("out3", ("f", "r"), ("", "a"))]
        self.assertEqual(self.of("call f(lent a, x < y, lent a)", rest=rest), arguments)
        result = [("to", ("f", ""), ("main", "x"))]
        self.assertEqual(self.of("call x = f(lent a, x < y, lent a)", rest=rest), arguments + result)
        self.assertEqual(self.of("start t = f(lent a, x < y, lent a) / wait t", rest=rest), arguments)
        self.assertEqual(self.of("start t = f(lent a, x < y, lent a) / wait x = t", rest=rest), arguments + result)
        made = written("place a = 0 / fun main() / call f(lent a, 1, lent a) / return 0 / end" + rest)
        found = [demand[1:] for demand in demands(made) if demand[0] == "f.1"]
        self.assertEqual(found, [("in1", ("f", "r"), ("g", "u")), ("out1", ("g", "u"), ("f", "r")),
                                 ("to2", "bit", ("g", "v"))])

    def test_deep_operands_of_arguments(self):
        rest = " / fun f(q) / return 0 / end"
        wanted = [("1l", "bit", "num"), ("1rl", ("main", "x"), "num"), ("1rr", "digit", "num"), ("1r", "num", "num"),
                  ("to1", "num", ("f", "q"))]
        self.assertEqual(self.of("call f(1 - (x + 2))", rest=rest), wanted)

    def test_reading_order_and_labels(self):
        found = [(label, slot) for label, slot, _, _ in demands(MANY)]
        wanted = [("main.1", "to"), ("main.2", "to"), ("main.3", "to1"), ("main.3", "in2"), ("main.3", "out2"),
                  ("main.4", "to"),
                  ("main.7", "to"), ("f.1", "to"), ("f.2", "to"), ("g.1", "to")]
        self.assertEqual(found, wanted)


class TestFlows(unittest.TestCase):
    def test_first_values_and_targets(self):
        wanted = [("b", "first", "digit", ("", "b")), ("a", "first", "word", ("", "a")),
                  ("main.1", "to", "bit", ("main", "y")), ("main.2", "to", "digit", ("main", "z")),
                  ("main.3", "to1", "bit", ("f", "x")),
                  ("main.3", "in2", ("", "a"), ("f", "p")), ("main.3", "out2", ("f", "p"), ("", "a")),
                  ("main.4", "to", ("main", "y"), ("main", "z")), ("main.7", "to", "bit", ("main", "")),
                  ("f.1", "to", "bit", ("f", "u")),
                  ("f.2", "to", "bit", ("f", "")), ("g.1", "to", "bit", ("g", ""))]
        self.assertEqual(flows(MANY), wanted)

    def test_kinds_are_no_holders(self):
        made = written("fun main() / let x = 1 / if x / print x + 1 / end / return 0 / end")
        self.assertEqual([flow[0] for flow in flows(made)], ["main.1", "main.4"])


class TestCasts(unittest.TestCase):
    def test_needed_and_not_needed(self):
        made = written("place a nat = 5 / place b = 'red / fun main() digit / let x num = a / set a = x "
                       "/ print b + 1 / if a / end "
                       "/ set b = x / ask a / return a / end")
        wanted = [("main.2", "to", "nat"), ("main.3", "el", "num"), ("main.4", "to", "bit"), ("main.6", "to", "nat"),
                  ("main.7", "to", "digit")]
        self.assertEqual(casts(made), wanted)

    def test_lent_parameters(self):
        made = written("place a nat = 5 / place b = 1 / fun main() / call f(lent a, lent b) / return 0 / end "
                       "/ fun f(lent p small, lent q nat) / narrow p to nat / narrow q to num / return 0 / end")
        wanted = [("main.1", "in1", "small"), ("main.1", "out1", "nat"), ("main.1", "in2", "nat"),
                  ("f.1", "in", "nat"), ("f.1", "out", "nat")]
        self.assertEqual(casts(made), wanted)

    def test_results(self):
        made = written("fun main() / let x word = 'a / call x = f() / start t = f() / wait x = t / return 0 / end "
                       "/ fun f() nat / return 1 / end")
        self.assertEqual(casts(made), [("main.2", "to", "word"), ("main.4", "to", "word")])

    def test_blame_of(self):
        for slot, text in (("in", "f.3+"), ("in2", "f.3+"), ("out", "f.3-"), ("out1", "f.3-"), ("to", "f.3"),
                           ("to3", "f.3"), ("el", "f.3"),
                           ("1rl", "f.3")):
            self.assertEqual(blame_of(("f.3", slot, "nat")), text)


if __name__ == "__main__":
    unittest.main()
