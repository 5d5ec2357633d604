"""Kept programs [93, 94]."""

import random
import unittest

from quickways.edits import edited
from quickways.errors import BadEdit, NoRow, NoStep
from quickways.looks import inputs
from quickways.relooking import Kept
from quickways.verdicts import faults
from quickways.writing import write_program
from tests.helper import PRINT, lit, written
from tests.randoms import random_edit, random_programs
from tests.test_verdicts import EVERY, WANTED

CHAIN = written(
    "place a = 0 / place b = 0 / fun main() / call f(lent a) / call g() / return 0 / end "
    "/ fun f(lent p) / print 1 / call h(lent p) / return 0 / end / fun g() / print 2 / return 0 / end "
    "/ fun h(lent q) / print 3 / return 0 / end / watch a 111111 000000 good 0")
BAD = ("main", 3, PRINT)


def state(kept):
    """All that can be seen of a kept program."""
    return (write_program(kept.program), kept.looks, len(kept), kept.faults())


def changed(before, after):
    """The names of the functions whose inputs differ in two programs."""
    return tuple(fun[1] for fun in after.funs if inputs(before, fun[1]) != inputs(after, fun[1]))


def refused(function, *args):
    try:
        function(*args)
    except (NoRow, BadEdit) as why:
        return why.where
    except NoStep as why:
        return ("step", why.word)
    return None


class TestBeginning(unittest.TestCase):
    def test_fields(self):
        kept = Kept(CHAIN)
        self.assertIs(kept.program, CHAIN)
        self.assertEqual((kept.looks, len(kept)), (4, 0))
        self.assertEqual(kept.faults(), faults(CHAIN))

    def test_faults(self):
        kept = Kept(EVERY)
        self.assertEqual(kept.faults(), WANTED)
        kept.faults().clear()
        self.assertEqual(kept.faults(), WANTED)

    def test_nothing_to_take_back(self):
        kept = Kept(CHAIN)
        before = state(kept)
        self.assertEqual(refused(kept.undo), ("step", "undo"))
        self.assertEqual(state(kept), before)


class TestPut(unittest.TestCase):
    def check(self, edit, names):
        kept = Kept(CHAIN)
        self.assertEqual(kept.put(edit), names)
        made = edited(CHAIN, edit)
        self.assertEqual((kept.program, kept.looks, len(kept)), (made, 4 + len(names), 1))
        self.assertEqual((kept.faults(), changed(CHAIN, made)), (faults(made), names))
        self.assertEqual(kept.undo(), names)
        self.assertEqual((kept.program, kept.looks, len(kept)), (CHAIN, 4 + 2 * len(names), 0))
        self.assertEqual(kept.faults(), faults(CHAIN))

    def test_the_edited_function_alone(self):
        self.check(("g", 1, ("print", lit(9))), ("g",))
        self.check(("h", 1, ("set", "q", lit(9))), ("h",))
        self.check(("main", 3, ("return", lit(9))), ("main",))

    def test_an_equal_row(self):
        self.check(("g", 1, ("print", lit(2))), ())

    def test_what_a_function_asks_or_names(self):
        self.check(("g", 1, ("ask", "b")), ("main", "g"))
        self.check(("h", 1, ("ask", "q")), ("main", "f", "h"))
        self.check(("h", 1, ("set", "b", lit(1))), ("main", "f", "h"))

    def test_points(self):
        self.check(("main", 1, ("call", None, "f", (("lent", "b"),))), ("main", "f", "h"))

    def test_view_checks_of_functions_ahead(self):
        self.check(("f", 1, ("narrow", "p", "nat")), ("f", "g", "h"))
        self.check(("h", 1, ("narrow", "q", "nat")), ("h",))

    def test_errors_change_nothing(self):
        kept = Kept(CHAIN)
        kept.put(("g", 1, ("ask", "b")))
        before = state(kept)
        for edit, where in ((BAD, "main.3"), (("main", 9, PRINT), "main.9"), (("x", 1, PRINT), "x"),
                            (("main", 2, PRINT), "main.2"), (("g", 0, PRINT), "g.0")):
            self.assertEqual(refused(kept.put, edit), where)
            self.assertEqual(state(kept), before)

    def test_many_edits(self):
        rng = random.Random(151)
        several = 0
        for made in random_programs(152, 60):
            kept = Kept(made)
            looks = len(made.funs)
            told = []
            for _ in range(12):
                before = kept.program
                edit = random_edit(rng, before)
                if told and rng.random() < 0.3:
                    wanted, program = told.pop()
                    self.assertEqual(kept.undo(), wanted)
                    self.assertEqual(kept.program, program)
                    looks += len(wanted)
                elif refused(edited, before, edit) is not None:
                    self.assertEqual(refused(kept.put, edit), refused(edited, before, edit))
                else:
                    names = kept.put(edit)
                    self.assertEqual(names, changed(before, kept.program))
                    self.assertEqual(kept.program, edited(before, edit))
                    told.append((names, before))
                    looks += len(names)
                    several += len(names) > 1
                self.assertEqual((kept.looks, len(kept), kept.faults()), (looks, len(told), faults(kept.program)))
            while told:
                wanted, program = told.pop()
                self.assertEqual((kept.undo(), kept.program), (wanted, program))
            self.assertEqual((kept.program, refused(kept.undo)), (made, ("step", "undo")))
        self.assertGreater(several, 20)


class TestPreview(unittest.TestCase):
    def test_no_edit(self):
        self.assertEqual(Kept(EVERY).preview(), WANTED)

    def test_several_edits(self):
        kept = Kept(CHAIN)
        kept.put(("g", 1, ("ask", "b")))
        before = state(kept)
        edits = [("f", 1, ("if", lit(1), (("defer", "always", ("print", lit(1))),), ())),
                 ("f", 2, ("defer", "always", ("print", ("name", "p"))))]
        self.assertEqual(kept.preview(edits[0]), faults(edited(kept.program, edits[0])))
        self.assertEqual(kept.preview(*edits), faults(edited(edited(kept.program, edits[0]), edits[1])))
        self.assertIn(("exits.stale", "f.2"), kept.preview(*edits))
        self.assertEqual(state(kept), before)

    def test_the_first_edit_that_cannot_be_done(self):
        kept = Kept(CHAIN)
        before = state(kept)
        fine = ("g", 1, ("ask", "b"))
        self.assertEqual(refused(kept.preview, fine, ("g", 3, PRINT), BAD), "g.3")
        self.assertEqual(refused(kept.preview, fine, BAD, ("g", 3, PRINT)), "main.3")
        self.assertEqual(refused(kept.preview, ("x", 3, PRINT), BAD), "x")
        # The first edit makes the row of which the second one is an edit.
        self.assertIsNone(refused(kept.preview, ("g", 1, ("loop", 1, (PRINT,))), ("g", 3, ("return", lit(5)))))
        self.assertEqual(state(kept), before)


class TestTwoObjects(unittest.TestCase):
    def test_they_share_nothing(self):
        one, other = Kept(CHAIN), Kept(CHAIN)
        before = state(other)
        one.put(("g", 1, ("ask", "b")))
        self.assertEqual(state(other), before)


if __name__ == "__main__":
    unittest.main()
