"""The faults of the tasks part [55], [17]."""

import unittest

from quickways.reach import Reach, regions
from quickways.sharing import ask_faults, clashes, share_faults
from tests.helper import PRINT, RETURN, call, fun, lent, lent_param, lit, main, name, places_named, program, start, wait
from tests.randoms import random_programs

PLACES = places_named("d", "a", "c", "b")


def found(made):
    return list(clashes(made, Reach(made)))


def shared(made):
    return share_faults(made, Reach(made))


def asked(made):
    return ask_faults(made, Reach(made))


def setting(text):
    return ("set", text, lit(1))


def using(text):
    return ("print", name(text))


class TestClashes(unittest.TestCase):
    def with_task(self, task_row, *between, behind=(), front=()):
        """The clashes of a task that does a row beside some rows."""
        made = program(main(*front, start("t", "f"), *between, wait("t"), *behind), fun("f", (), task_row, RETURN),
                       places=PLACES)
        return found(made)

    def test_set_and_use_in_both_directions(self):
        self.assertEqual(self.with_task(setting("a"), using("a")), [("main.1", "main.2", ("a",))])
        self.assertEqual(self.with_task(using("a"), setting("a")), [("main.1", "main.2", ("a",))])
        self.assertEqual(self.with_task(setting("a"), setting("a")), [("main.1", "main.2", ("a",))])

    def test_no_clash(self):
        self.assertEqual(self.with_task(using("a"), using("a")), [])
        self.assertEqual(self.with_task(setting("a"), using("b"), setting("c"), PRINT), [])
        self.assertEqual(self.with_task(setting("a")), [])

    def test_rows_outside_the_region(self):
        self.assertEqual(self.with_task(setting("a"), PRINT, behind=(using("a"),), front=(setting("a"),)), [])

    def test_rows_in_order_with_the_rows_inside_them(self):
        inner = ("if", lit(1), (("loop", 1, (setting("a"),)),), (using("b"), setting("b")))
        rows = self.with_task(using("a"), inner, setting("a"), using("a"))
        self.assertEqual(rows, [("main.1", "main.2", ("a",)), ("main.1", "main.7", ("a",))])

    def test_places_in_the_order_of_the_program(self):
        both = ("print", ("add", name("a"), ("add", name("b"), name("d"))))
        made = program(main(start("t", "f"), both, wait("t")),
                       fun("f", (), setting("b"), setting("a"), setting("d"), RETURN), places=PLACES)
        self.assertEqual(found(made), [("main.1", "main.2", ("d", "a", "b"))])

    def test_lent_places(self):
        tree = fun("f", (lent_param("p"),), RETURN)
        made = program(main(start("t", "f", lent("a")), using("a"), using("b"), wait("t")), tree, places=PLACES)
        self.assertEqual(found(made), [("main.1", "main.2", ("a",))])
        made = program(main(start("t", "f", lent("a")), call("f", lent("a")), call("f", lent("b")), wait("t")), tree,
                       places=PLACES)
        # The function uses all that is lent to it anywhere, so the call that lends b clashes at a, too.
        self.assertEqual(found(made), [("main.1", "main.2", ("a", "b")), ("main.1", "main.3", ("a", "b"))])

    def test_through_several_functions(self):
        made = program(
            main(start("t", "f"), call("h"), wait("t")),
            fun("f", (), call("g"), RETURN), fun("g", (), setting("c"), RETURN),
            fun("h", (), call("k", lent("c")), RETURN), fun("k", (lent_param("p"),), using("p"), RETURN), places=PLACES)
        self.assertEqual(found(made), [("main.1", "main.2", ("c",))])

    def test_two_tasks(self):
        made = program(main(start("t", "f"), start("u", "g"), wait("t"), using("a"), wait("u")),
                       fun("f", (), setting("a"), RETURN), fun("g", (), setting("a"), RETURN), places=PLACES)
        self.assertEqual(found(made), [("main.1", "main.2", ("a",)), ("main.2", "main.4", ("a",))])
        self.assertEqual(shared(made), [("tasks.share", "main.1"), ("tasks.share", "main.2")])

    def test_start_rows_inside_rows_and_several_functions(self):
        inner = ("loop", 2, (start("t", "g"), using("a"), using("a"), wait("t")))
        made = program(main(("if", lit(1), (inner,), ()), call("f")),
                       fun("f", (), start("t", "g"), setting("b"), wait("t"), start("u", "g"), setting("a"), wait("u"),
                           RETURN),
                       fun("g", (), setting("a"), RETURN), places=PLACES)
        self.assertEqual(found(made), [("main.3", "main.4", ("a",)), ("main.3", "main.5", ("a",)),
                                       ("f.4", "f.5", ("a",))])
        self.assertEqual(shared(made), [("tasks.share", "main.3"), ("tasks.share", "f.4")])

    def test_against_the_words(self):
        many = 0
        for made in random_programs(41, 150):
            reach = Reach(made)
            wanted = []
            for tree in made.funs:
                for number, others in regions(tree):
                    for other in others:
                        places = self.places(reach, tree[1], number, other)
                        if places:
                            wanted.append((f"{tree[1]}.{number}", f"{tree[1]}.{other}", places))
            self.assertEqual(found(made), wanted)
            labels = [label for label, _ in made.rows()]
            faulty = sorted({one for one, _, _ in wanted}, key=labels.index)
            self.assertEqual(shared(made), [("tasks.share", label) for label in faulty])
            many += len(wanted)
        self.assertGreater(many, 5)

    def places(self, reach, text, number, other):
        return tuple(place for place in reach.program.place_names()
                     if (place in reach.row_sets(text, number) and place in reach.row_uses(text, other))
                     or (place in reach.row_uses(text, number) and place in reach.row_sets(text, other)))


class TestAsks(unittest.TestCase):
    def test_ask_rows(self):
        made = program(main(("let", "x", None, lit(0)), ("ask", "x"), start("t", "f"), ("ask", "x"), wait("t"),
                            start("u", "g"), wait("u")),
                       fun("f", (), ("set", "a", lit(1)), RETURN),
                       fun("g", (), ("loop", 1, (("ask", "a"),)), RETURN), places=PLACES)
        self.assertEqual(asked(made), [("tasks.ask", "main.6")])

    def test_through_another_function(self):
        made = program(main(start("t", "f"), wait("t"), call("f"), start("u", "h"), wait("u")),
                       fun("f", (), start("t", "g"), wait("t"), RETURN), fun("g", (), call("k"), RETURN),
                       fun("h", (), RETURN), fun("k", (), ("ask", "a"), RETURN), places=PLACES)
        self.assertEqual(asked(made), [("tasks.ask", "main.1"), ("tasks.ask", "f.1")])

    def test_calls_and_their_own_questions_are_no_faults(self):
        made = program(main(("ask", "a"), call("f"), start("t", "g"), ("ask", "a"), wait("t")),
                       fun("f", (), ("ask", "a"), RETURN), fun("g", (), RETURN), places=PLACES)
        self.assertEqual(asked(made), [])


if __name__ == "__main__":
    unittest.main()
