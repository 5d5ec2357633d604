"""Regions, points, and what functions and rows name, use, set, lend and ask [14 to 17]."""

import unittest

from quickways.errors import NoRow
from quickways.reach import Reach, regions
from quickways.trees import inner_lists, names_lent, names_read, names_set, numbered_rows
from tests.helper import PRINT, RETURN, call, fun, lent, lent_param, lit, main, name, places_named, program, start, wait
from tests.helper import worth, worth_param

PLACES = places_named("d", "a", "c", "b")

# g has the points of q and r from three functions, from inside if and loop rows.
CHAIN = program(
    main(
        ("let", "x", None, name("d")),
        ("if", lit(1), (("loop", 2, (call("f", lent("a"), worth(name("x"))),)),), (start("t", "g", lent("b"), lent("b")), wait("t"))),
        ("set", "c", lit(1)),
        call("h"),
    ),
    fun("f", (lent_param("p"), worth_param("y")), ("loop", 1, (call("g", lent("p"), lent("d")),)), RETURN),
    fun("g", (lent_param("q"), lent_param("r")), ("set", "q", name("r")), RETURN),
    fun("h", (), ("if", lit(0), (), (("ask", "a"),)), RETURN),
    places=PLACES,
)


def closure(made):
    """What point 14 to 16 say, by going over all rows until nothing changes."""
    funs = {tree[1]: tree for tree in made.funs}
    table = {}
    for _ in range(12):
        for tree in made.funs:
            for _, _, row in numbered_rows(tree):
                if row[0] in ("call", "start"):
                    for param, arg in zip(funs[row[2]][2], row[3]):
                        if arg[0] == "lent":
                            table.setdefault(("points", row[2], param[1]), set()).update(meant(made, table, tree, arg[1]))
            close_fun(made, table, tree)
    return table


def meant(made, table, tree, text):
    return {text} if made.is_place(text) else table.get(("points", tree[1], text), set())


def close_fun(made, table, tree):
    own = set().union(*[table.get(("points", tree[1], param[1]), set()) for param in tree[2]])
    for word in ("uses", "sets", "lends", "named", "asks"):
        found = table.setdefault((word, tree[1]), set())
        if word in ("uses", "sets"):
            found.update(own)
        for number, _, row in numbered_rows(tree):
            found.update(of_row(made, table, tree, word, row))
            table[word, tree[1], number] = of_row(made, table, tree, word, row)


def of_row(made, table, tree, word, row):
    every = names_read(row) + names_set(row) + names_lent(row)
    names = {"uses": every, "sets": names_set(row) + names_lent(row), "lends": names_lent(row)}
    if word == "named":
        found = {text for text in every if made.is_place(text)}
    elif word == "asks":
        found = {"yes"} if row[0] == "ask" else set()
    else:
        found = set().union(*[meant(made, table, tree, text) for text in names[word]])
    if row[0] in ("call", "start"):
        found |= table.get((word, row[2]), set())
    for rows in inner_lists(row):
        for inner in rows:
            found |= of_row(made, table, tree, word, inner)
    return found


class TestRegions(unittest.TestCase):
    def test_none(self):
        self.assertEqual(regions(main()), [])
        self.assertEqual(regions(fun("f", ())), [])

    def test_rows_between(self):
        tree = main(PRINT, start("t", "f"), ("loop", 1, (PRINT, PRINT)), PRINT, start("u", "f"), wait("t"), PRINT, wait("u"))
        self.assertEqual(regions(tree), [(2, (3, 6, 7)), (7, (8, 9))])
        self.assertEqual(regions(main(start("t", "f"), wait("t"))), [(1, ())])

    def test_inside_rows_and_in_reading_order(self):
        inner = (PRINT, start("u", "f"), ("if", lit(1), (PRINT,), (PRINT,)), wait("u"))
        tree = main(("if", lit(1), (start("v", "f"), PRINT, wait("v")), inner), start("t", "f"), ("loop", 1, inner[:0]),
                    wait("t"))
        self.assertEqual(regions(tree), [(2, (3,)), (6, (7,)), (11, (12,))])
        tree = main(start("t", "f"), ("loop", 2, (start("u", "f"), PRINT, wait("u"))), wait("t"))
        self.assertEqual(regions(tree), [(1, (2,)), (3, (4,))])


class TestReach(unittest.TestCase):
    def setUp(self):
        self.reach = Reach(CHAIN)

    def test_program(self):
        self.assertIs(self.reach.program, CHAIN)

    def test_points(self):
        self.assertEqual(self.reach.points("f", "p"), ("a",))
        self.assertEqual(self.reach.points("g", "q"), ("a", "b"))
        self.assertEqual(self.reach.points("g", "r"), ("d", "b"))
        for told in (("f", "y"), ("main", "x"), ("main", "a"), ("f", "b"), ("h", "d")):
            self.assertEqual(self.reach.points(*told), ())

    def test_functions(self):
        self.assertEqual(self.reach.named("main"), ("d", "a", "c", "b"))
        self.assertEqual(self.reach.named("f"), ("d",))
        self.assertEqual(self.reach.named("g"), ())
        self.assertEqual(self.reach.named("h"), ("a",))
        self.assertEqual(self.reach.uses("main"), ("d", "a", "c", "b"))
        self.assertEqual(self.reach.uses("f"), ("d", "a", "b"))
        self.assertEqual(self.reach.uses("g"), ("d", "a", "b"))
        self.assertEqual(self.reach.uses("h"), ("a",))
        self.assertEqual(self.reach.sets("main"), ("d", "a", "c", "b"))
        self.assertEqual(self.reach.sets("g"), ("d", "a", "b"))
        self.assertEqual(self.reach.sets("h"), ("a",))
        self.assertEqual(self.reach.lends("main"), ("d", "a", "b"))
        self.assertEqual(self.reach.lends("f"), ("d", "a"))
        self.assertEqual(self.reach.lends("g"), ())
        self.assertEqual([self.reach.asks(text) for text in ("main", "f", "g", "h")], [True, False, False, True])

    def test_rows(self):
        told = {1: (("d",), (), ()), 2: (("d", "a", "b"), ("d", "a", "b"), ("d", "a", "b")),
                3: (("d", "a", "b"), ("d", "a", "b"), ("d", "a")), 4: (("d", "a", "b"), ("d", "a", "b"), ("d", "a")),
                5: (("d", "a", "b"), ("d", "a", "b"), ("b",)), 6: ((), (), ()), 7: (("c",), ("c",), ()),
                8: (("a",), ("a",), ()), 9: ((), (), ())}
        for number, places in told.items():
            got = (self.reach.row_uses("main", number), self.reach.row_sets("main", number),
                   self.reach.row_lends("main", number))
            self.assertEqual(got, places, number)
        self.assertEqual(self.reach.row_uses("g", 1), ("d", "a", "b"))
        self.assertEqual(self.reach.row_sets("g", 1), ("a", "b"))
        self.assertEqual(self.reach.row_lends("f", 1), ("d", "a"))
        self.assertEqual(self.reach.row_sets("h", 1), ("a",))

    def test_points_that_a_function_does_not_touch(self):
        made = program(main(call("f", lent("a"))), fun("f", (lent_param("p"),), PRINT, RETURN), places=PLACES)
        reach = Reach(made)
        self.assertEqual((reach.uses("f"), reach.sets("f"), reach.lends("f"), reach.named("f")), (("a",), ("a",), (), ()))
        self.assertEqual(reach.row_uses("f", 1), ())

    def test_errors(self):
        for word in ("named", "uses", "sets", "lends", "asks"):
            for wrong in ("none", "a", ""):
                self.refused(wrong, lambda: getattr(self.reach, word)(wrong))
        for word in ("row_uses", "row_sets", "row_lends"):
            self.refused("none", lambda: getattr(self.reach, word)("none", 0))
            for number in (0, 10, -1):
                self.refused(f"main.{number}", lambda: getattr(self.reach, word)("main", number))
            self.refused("g.3", lambda: getattr(self.reach, word)("g", 3))
        self.refused("none", lambda: self.reach.points("none", "zz"))
        self.refused("zz", lambda: self.reach.points("f", "zz"))
        self.refused("t", lambda: self.reach.points("main", "t"))

    def refused(self, where, call_it):
        with self.assertRaises(NoRow) as caught:
            call_it()
        self.assertEqual(caught.exception.where, where)


class TestAgainstTheWords(unittest.TestCase):
    def test_all_functions_and_rows(self):
        for made in (CHAIN,) + OTHERS:
            reach = Reach(made)
            table = closure(made)
            order = made.place_names()
            for tree in made.funs:
                self.check_fun(made, reach, table, order, tree)

    def check_fun(self, made, reach, table, order, tree):
        for param in tree[2]:
            points = table.get(("points", tree[1], param[1]), set())
            self.assertEqual(reach.points(tree[1], param[1]), tuple(text for text in order if text in points))
        for word in ("uses", "sets", "lends", "named"):
            places = tuple(text for text in order if text in table[word, tree[1]])
            self.assertEqual(getattr(reach, word)(tree[1]), places, (tree[1], word))
        self.assertIs(reach.asks(tree[1]), table["asks", tree[1]] == {"yes"})
        for number, _, _ in numbered_rows(tree):
            for word in ("uses", "sets", "lends"):
                places = tuple(text for text in order if text in table[word, tree[1], number])
                self.assertEqual(getattr(reach, f"row_{word}")(tree[1], number), places, (tree[1], number, word))


TWO = (lent_param("p"), lent_param("q"))
OTHERS = (
    # Lending through several functions, crossed, with defer, wait, ask and narrow rows.
    program(
        main(call("e", lent("a"), lent("b")), call("g", lent("d"), lent("c"))),
        fun("e", TWO, ("if", name("p"), (call("f", lent("q"), lent("p")),), (("narrow", "p", "nat"),)), RETURN),
        fun("f", TWO, start("t", "g", lent("p"), lent("p")), ("print", name("q")), ("wait", "c", "t"), RETURN),
        fun("g", TWO, ("defer", "done", ("set", "p", name("q"))), ("loop", 2, (("ask", "q"),)), RETURN),
        places=PLACES,
    ),
    # Results that are set into places, and worth arguments that read them.
    program(
        main(("call", "a", "f", (worth(name("b")),)), start("t", "f", worth(("same", name("c"), name("c")))), ("wait", "d", "t")),
        fun("f", (worth_param("x"),), ("return", name("x"))),
        places=PLACES,
    ),
    # The points of a function that is reached in two ways, in another order than that of the places.
    program(
        main(("loop", 1, (call("e", lent("b")), call("f", lent("d")))), call("f", lent("c"))),
        fun("e", (lent_param("p"),), call("f", lent("p")), ("return", name("p"))),
        fun("f", (lent_param("p"),), ("if", lit(1), (("narrow", "p", "word"),), (("return", name("a")),)), RETURN),
        places=PLACES,
    ),
)


if __name__ == "__main__":
    unittest.main()
