"""The inputs of functions and the looks at them [91, 92]."""

import random
import unittest

from quickways.errors import NoRow
from quickways.kinds import KINDS
from quickways.looks import inputs, look
from quickways.reach import Reach
from quickways.trees import numbered_rows
from quickways.verdicts import faults
from tests.helper import written
from tests.randoms import random_edit, random_programs
from tests.test_edits import done
from tests.test_verdicts import EVERY, ONE_ROW, ONE_WANTED

EXAMPLE = written("place a = 0 / fun main() / call f(lent a) / return 0 / end / fun f(lent p) / return 0 / end")
TWO = written(
    "place a num = 1 / place b = 2 / place c = 3 / fun main() / call f(1, lent b, lent a) / start t = h() / wait t "
    "/ call g(lent a) / call g(lent c) / return 0 / end / fun f(x, lent p, lent q nat) / narrow p to small "
    "/ call g(lent p) / return c / end / fun g(lent r word) / set c = 1 / return 0 / end "
    "/ fun h() / let y = 0 / ask y / return b / end")


def view_checks(program, fun):
    """The view checks of the rows of a function."""
    found = []
    for _, _, row in numbered_rows(fun):
        if row[0] == "narrow":
            found.append(program.narrow_checks(fun[1], row[1], row[2]))
        if row[0] in ("call", "start"):
            for arg, param in zip(row[3], program.fun(row[2])[2]):
                if arg[0] == "lent":
                    found.append(program.lend_checks(fun[1], arg[1], row[2], param[1]))
    return found


def inputs_told(program, name):
    """The inputs as point 91 tells them."""
    reach = Reach(program)
    fun = program.fun(name)
    called = {row[2] for _, _, row in numbered_rows(fun) if row[0] in ("call", "start")}
    callees = tuple(
        (text, params, reach.uses(text), reach.sets(text), reach.lends(text), reach.named(text), reach.asks(text))
        for _, text, params, _, _ in program.funs if text in called)
    points = tuple((param[1], reach.points(name, param[1])) for param in fun[2] if param[0] == "lent")
    checks = []
    for other in program.funs:
        if other == fun:
            break
        checks += view_checks(program, other)
    ahead = tuple(tuple(kind for kind in KINDS if kind in [check[at] for check in checks]) for at in (0, 1))
    return (fun, callees, points, ahead)


def no_row(function, *args):
    try:
        function(*args)
    except NoRow as why:
        return why.where
    return None


class TestInputs(unittest.TestCase):
    def test_the_example(self):
        self.assertEqual(inputs(EXAMPLE, "main"), (
            EXAMPLE.fun("main"), (("f", (("lent", "p", None),), ("a",), ("a",), (), (), False),), (), ((), ())))
        self.assertEqual(inputs(EXAMPLE, "f"), (EXAMPLE.fun("f"), (), (("p", ("a",)),), ((), ())))

    def test_each_of_the_four(self):
        f, g, h = (TWO.fun(text)[2] for text in ("f", "g", "h"))
        told_g = ("g", g, ("a", "b", "c"), ("a", "b", "c"), (), ("c",), False)
        self.assertEqual(inputs(TWO, "main"), (
            TWO.fun("main"),
            (("f", f, ("a", "b", "c"), ("a", "b", "c"), ("b",), ("c",), False), told_g,
             ("h", h, ("b",), (), (), ("b",), True)),
            (), ((), ())))
        self.assertEqual(inputs(TWO, "f"), (
            TWO.fun("f"), (told_g,), (("p", ("b",)), ("q", ("a",))), (("nat", "word"), ("num",))))
        self.assertEqual(inputs(TWO, "g"), (
            TWO.fun("g"), (), (("r", ("a", "b", "c")),), (("nat", "small", "word"), ("num", "small"))))
        self.assertEqual(inputs(TWO, "h"), (
            TWO.fun("h"), (), (), (("nat", "small", "word"), ("num", "small"))))

    def test_against_the_words(self):
        for made in random_programs(141, 120):
            for fun in made.funs:
                self.assertEqual(inputs(made, fun[1]), inputs_told(made, fun[1]))

    def test_no_function(self):
        for text in ("x", "", "a", "p"):
            self.assertEqual(no_row(inputs, EXAMPLE, text), text)
            self.assertEqual(no_row(look, EXAMPLE, text), text)


class TestLook(unittest.TestCase):
    def test_each_function(self):
        self.assertEqual(look(EVERY, "main"), [
            ("loans.alias", "main.4"), ("loans.name", "main.1"), ("loans.name", "main.4"), ("loans.watched", "main.1"),
            ("loans.watched", "main.4"), ("loans.task", "main.1"), ("tasks.share", "main.1"), ("tasks.ask", "main.5")])
        self.assertEqual(look(EVERY, "g"), [("casts.fork", "g.4"), ("exits.branch", "g.3"), ("exits.stale", "g.3")])
        self.assertEqual(look(EVERY, "f"), [("loans.name", "f.3"), ("loans.watched", "f.3"), ("exits.loop", "f.2")])
        self.assertEqual((look(EVERY, "h"), look(EVERY, "k")), ([], []))
        self.assertEqual(look(ONE_ROW, "f"), [fault for fault in ONE_WANTED if fault[1] == "f.3"])

    def test_faults_at_the_rows_of_a_function(self):
        for made in random_programs(142, 120):
            told = faults(made)
            for fun in made.funs:
                labels = [f"{fun[1]}.{number}" for number, _, _ in numbered_rows(fun)]
                self.assertEqual(look(made, fun[1]), [fault for fault in told if fault[1] in labels])

    def test_a_new_list(self):
        look(EVERY, "g").clear()
        self.assertEqual(len(look(EVERY, "g")), 3)

    def test_equal_inputs(self):
        rng = random.Random(143)
        same = faulty = others = 0
        for made in random_programs(144, 120):
            for _ in range(8):
                other = done(made, random_edit(rng, made))
                if other is None:
                    continue
                for fun in made.funs:
                    if inputs(made, fun[1]) == inputs(other, fun[1]):
                        same += 1
                        faulty += look(made, fun[1]) != []
                        self.assertEqual(look(made, fun[1]), look(other, fun[1]))
                    elif made.fun(fun[1]) == other.fun(fun[1]):
                        others += 1
        self.assertGreater(min(same, faulty, others), 50)


if __name__ == "__main__":
    unittest.main()
