"""Numbers of rows, replaced rows, closing, and the names in rows [9, 10, 14]."""

import unittest

from quickways import trees
from quickways.errors import NoRow
from tests.helper import PRINT, RETURN, add, call, fun, lent, lit, name, start, wait, worth

LOOP = ("loop", 2, (PRINT, ("ask", "x")))
BOTH = ("if", name("x"), (LOOP, ("set", "x", lit(2))), (("set", "x", lit(3)),))
LET = ("let", "x", None, lit(0))
NESTED = fun("f", (), LET, BOTH, ("if", lit(1), (), (PRINT,)), RETURN)
NUMBERED = [
    (1, 1, LET),
    (2, 1, BOTH),
    (3, 2, LOOP),
    (4, 3, PRINT),
    (5, 3, ("ask", "x")),
    (6, 2, ("set", "x", lit(2))),
    (7, 2, ("set", "x", lit(3))),
    (8, 1, ("if", lit(1), (), (PRINT,))),
    (9, 2, PRINT),
    (10, 1, RETURN),
]
NEW = ("print", name("new"))
SUM = ("sub", ("less", name("b"), name("a")), ("same", lit(1), add(name("c"), name("b"))))


class TestNumbers(unittest.TestCase):
    def test_numbered_rows(self):
        self.assertEqual(trees.numbered_rows(NESTED), NUMBERED)
        self.assertEqual(trees.numbered_rows(fun("f", ())), [])

    def test_numbered_rows_are_a_new_list(self):
        trees.numbered_rows(NESTED).clear()
        self.assertEqual(trees.numbered_rows(NESTED), NUMBERED)

    def test_row_at(self):
        for number, _, row in NUMBERED:
            self.assertEqual(trees.row_at(NESTED, number), row)

    def test_no_row(self):
        for number in (0, 11, 12, 99, -1):
            for call_it in (lambda: trees.row_at(NESTED, number), lambda: trees.replace_row(NESTED, number, (NEW,))):
                with self.assertRaises(NoRow) as caught:
                    call_it()
                self.assertEqual(caught.exception.where, f"f.{number}")
        with self.assertRaises(NoRow) as caught:
            trees.row_at(fun("main", ()), 1)
        self.assertEqual(caught.exception.where, "main.1")

    def test_size_of(self):
        self.assertEqual(trees.size_of(()), 0)
        self.assertEqual(trees.size_of(NESTED[4]), 10)
        self.assertEqual(trees.size_of((BOTH,)), 6)
        self.assertEqual(trees.size_of((LOOP, PRINT)), 4)

    def test_own_names(self):
        made = fun("f", (("worth", "b", None), ("lent", "a", None)), LET, ("loop", 1, (start("t", "g"), wait("t"))),
                   ("let", "y", "nat", lit(1)), RETURN)
        self.assertEqual(trees.own_names_of(made), ["b", "a", "x", "t", "y"])


class TestReplacing(unittest.TestCase):
    def replaced(self, number, *rows):
        made = trees.replace_row(NESTED, number, rows)
        self.assertEqual(made[:4], NESTED[:4])
        self.assertIs(type(made[4]), tuple)
        return made[4]

    def test_outer_rows(self):
        self.assertEqual(self.replaced(1, NEW), (NEW,) + NESTED[4][1:])
        self.assertEqual(self.replaced(2, NEW), (LET, NEW) + NESTED[4][2:])
        self.assertEqual(self.replaced(8, NEW), NESTED[4][:2] + (NEW, RETURN))
        self.assertEqual(self.replaced(10, NEW), NESTED[4][:3] + (NEW,))

    def test_inner_rows(self):
        rest = NESTED[4][2:]
        self.assertEqual(self.replaced(3, NEW), (LET, ("if", name("x"), (NEW, BOTH[2][1]), BOTH[3])) + rest)
        loop = ("loop", 2, (PRINT, NEW))
        self.assertEqual(self.replaced(5, NEW), (LET, ("if", name("x"), (loop, BOTH[2][1]), BOTH[3])) + rest)
        self.assertEqual(self.replaced(6, NEW), (LET, ("if", name("x"), (LOOP, NEW), BOTH[3])) + rest)
        self.assertEqual(self.replaced(7, NEW), (LET, ("if", name("x"), BOTH[2], (NEW,))) + rest)
        self.assertEqual(self.replaced(9, NEW), (LET, BOTH, ("if", lit(1), (), (NEW,)), RETURN))

    def test_by_no_row_and_by_several(self):
        self.assertEqual(self.replaced(2), (LET,) + NESTED[4][2:])
        self.assertEqual(self.replaced(7), (LET, ("if", name("x"), BOTH[2], ())) + NESTED[4][2:])
        self.assertEqual(self.replaced(1, NEW, LOOP, NEW), (NEW, LOOP, NEW) + NESTED[4][1:])
        loop = ("loop", 2, (NEW, BOTH, ("ask", "x")))
        made = (LET, ("if", name("x"), (loop, BOTH[2][1]), BOTH[3])) + NESTED[4][2:]
        self.assertEqual(self.replaced(4, NEW, BOTH), made)

    def test_the_row_itself_puts_back_the_same(self):
        for number, _, row in NUMBERED:
            self.assertEqual(trees.replace_row(NESTED, number, (row,)), NESTED)

    def test_the_first_two_rows_lists_of_an_if_row(self):
        made = fun("f", (), ("if", lit(1), (PRINT, PRINT), (PRINT, PRINT)), RETURN)
        for number in range(2, 6):
            rows = [PRINT] * 4
            rows[number - 2] = NEW
            want = fun("f", (), ("if", lit(1), tuple(rows[:2]), tuple(rows[2:])), RETURN)
            self.assertEqual(trees.replace_row(made, number, (NEW,)), want)


class TestClosing(unittest.TestCase):
    def test_closes(self):
        closing = ("if", lit(1), (PRINT, RETURN), (RETURN,))
        for rows in ((RETURN,), (PRINT, RETURN), (closing,), (PRINT, ("if", lit(0), (closing,), (RETURN,)))):
            self.assertIs(trees.closes(rows), True, rows)
        for rows in ((), (PRINT,), (RETURN, PRINT), (("if", lit(1), (RETURN,), ()),), (closing, PRINT),
                     (("if", lit(1), (), (RETURN,)),), (("loop", 1, (RETURN,)),), (("if", lit(1), (), ()),)):
            self.assertIs(trees.closes(rows), False, rows)


class TestNamesOfRows(unittest.TestCase):
    def check(self, row, read=(), changed=(), given=()):
        with self.subTest(row):
            self.assertEqual(trees.names_read(row), read)
            self.assertEqual(trees.names_set(row), changed)
            self.assertEqual(trees.names_lent(row), given)

    def test_rows_with_an_expression(self):
        self.check(("let", "x", "nat", SUM), ("b", "a", "c", "b"))
        self.check(("set", "x", SUM), ("b", "a", "c", "b"), ("x",))
        self.check(("print", SUM), ("b", "a", "c", "b"))
        self.check(("return", name("x")), ("x",))
        self.check(("print", lit("red")))

    def test_rows_with_arguments(self):
        args = (worth(SUM), lent("p"), worth(name("b")), lent("q"), lent("p"))
        self.check(("call", "x", "f", args), ("b", "a", "c", "b", "b"), ("x",), ("p", "q", "p"))
        self.check(("call", None, "f", args), ("b", "a", "c", "b", "b"), (), ("p", "q", "p"))
        self.check(("start", "t", "f", args), ("b", "a", "c", "b", "b"), (), ("p", "q", "p"))
        self.check(("call", "x", "f", ()), (), ("x",))

    def test_other_rows(self):
        self.check(("ask", "x"), (), ("x",))
        self.check(("wait", "x", "t"), (), ("x",))
        self.check(("wait", None, "t"))
        self.check(("narrow", "p", "nat"), ("p",))
        self.check(("defer", "done", ("print", name("x"))), ("x",))
        self.check(("defer", "fail", ("set", "y", name("x"))), ("x",), ("y",))
        self.check(("defer", "always", ("set", "y", lit(1))), (), ("y",))

    def test_rows_inside_do_not_count(self):
        self.check(("if", name("b"), (PRINT, ("set", "x", name("a"))), (call("f", lent("c")),)), ("b",))
        self.check(("loop", 2, (("set", "x", name("a")), call("f", lent("c")))))


if __name__ == "__main__":
    unittest.main()
