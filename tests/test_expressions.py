"""The texts of expressions [70], with values and names [3]."""

import itertools
import unittest

from quickways.errors import BadText
from quickways.expressions import read_expr, show_expr
from tests.helper import add, deep, lit, name

SIMPLE = [lit(0), lit(-99), lit("red"), lit("any"), name("x"), name("let"), name("a1b2c3")]
WORDS = {"add": "+", "sub": "-", "less": "<", "same": "=="}


def refused(text, *more):
    """The line with which a text is refused, None if it is read."""
    try:
        read_expr(text, *more)
    except BadText as why:
        return why.line
    return None


class TestShow(unittest.TestCase):
    def test_simple(self):
        self.assertEqual([show_expr(expr) for expr in SIMPLE], ["0", "-99", "'red", "'any", "x", "let", "a1b2c3"])

    def test_signs(self):
        for word, sign in WORDS.items():
            self.assertEqual(show_expr((word, name("x"), lit(-5))), f"x {sign} -5")

    def test_brackets(self):
        inner = ("add", name("x"), lit(1))
        other = ("less", name("y"), lit(-2))
        self.assertEqual(show_expr(("sub", inner, other)), "(x + 1) - (y < -2)")
        self.assertEqual(show_expr(("same", inner, lit("a"))), "(x + 1) == 'a")
        self.assertEqual(show_expr(("same", lit("a"), inner)), "'a == (x + 1)")
        self.assertEqual(show_expr(deep(4)), "((1 + 2) + 2) + 2")


class TestRead(unittest.TestCase):
    def test_every_form(self):
        small = [name("x"), lit(-5), lit("red")]
        second = [(word, left, right) for word in WORDS for left in small for right in small]
        third = [(word, left, right) for word in WORDS for left in small + second[::7] for right in small + second[::5]]
        for expr in SIMPLE + second + third:
            self.assertEqual(read_expr(show_expr(expr)), expr)
            self.assertEqual(read_expr(show_expr(expr), 7), expr)

    def test_depth(self):
        self.assertEqual(read_expr("(1 + 2) + 2"), deep(3))
        for expr in (deep(4), ("same", lit(1), deep(3)), ("less", deep(3), deep(3)), deep(9)):
            self.assertEqual(refused(show_expr(expr)), 1)

    def test_brackets_that_are_missing(self):
        for text in ("1 + 2 + 3", "x + (1 + 2", "x + 1 + 2)", "(x + 1 - y", "x - 1) + y", "(x + 1) - y < 2", "1 + 2)",
                     "(1 + 2"):
            self.assertEqual(refused(text, 4), 4, text)

    def test_brackets_too_many(self):
        for text in ("(x)", "(1 + 2)", "x + (1)", "(x) + 1", "((x + 1)) + 2", "x + ((1 + 2))", "()", "x + ()", "()()",
                     "(1 + 2)(3 + 4)",
                     "(1 + 2) + (3)", "(1 + 2)) - ((3 + 4)"):
            self.assertEqual(refused(text, 9), 9, text)

    def test_spaces(self):
        for text in (" x", "x ", "x  + 1", "x +  1", "x+1", "x +1", "x+ 1", "( x + 1) - y", "(x + 1 ) - y", " ", "",
                     "x + ", " + x", "x - - 5", "- 5"):
            self.assertEqual(refused(text, 2), 2, text)

    def test_wrong_items(self):
        for text in ("+", "x +", "+ x", "x ++ y", "x = y", "x > y", "x * y", "num + 1", "lent", "any", "x + digit",
                     "100", "x + 100", "-0", "01",
                     "+1", "'", "'Red", "'toolong", "toolong", "X", "x, y", "1x", "x == y == z", "x + 'a1", "\n",
                     "x\n", "x +\n1"):
            self.assertEqual(refused(text, 3), 3, text)

    def test_given_line(self):
        self.assertEqual((refused("x +"), refused("x +", 1), refused("x +", 58)), (1, 1, 58))

    def test_all_short_texts(self):
        known = {show_expr(expr): expr for expr in [name("x"), lit(1)]
                 + [("add", left, right) for left in (name("x"), lit(1)) for right in (name("x"), lit(1))]}
        read = 0
        for length in range(8):
            for signs in itertools.product("x1+ ()", repeat=length):
                text = "".join(signs)
                if refused(text) is None:
                    self.assertEqual(show_expr(read_expr(text)), text)
                    read += 1
                else:
                    self.assertNotIn(text, known)
        self.assertGreater(read, 20)

    def test_arguments_of_an_expression_are_read_in_order(self):
        self.assertEqual(read_expr("x + 1"), add(name("x"), lit(1)))
        self.assertEqual(read_expr("1 - x"), ("sub", lit(1), name("x")))


if __name__ == "__main__":
    unittest.main()
