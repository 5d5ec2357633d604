"""Edits, taking them back, and moving them behind others [89, 90]."""

import random
import unittest

from quickways.edits import edited, moved, undoing
from quickways.errors import BadEdit, BadProgram, NoRow
from quickways.reading import read_row
from quickways.trees import numbered_rows, row_at, size_of
from quickways.writing import write_program
from tests.helper import PRINT, call, lit, start, wait, written
from tests.randoms import random_edit, random_programs

MADE = written(
    "place a = 0 / fun main() / print 1 / if a / loop 2 / print 2 / end / else / print 3 / print 4 / end "
    "/ call f(lent a) "
    "/ start t = f(lent a) / wait t / return 0 / end / fun f(lent p) / loop 3 / set p = 1 / end / return 0 / end")
LOOPED = written("fun main() / print 1 / loop 2 / print 2 / end / print 3 / print 4 / return 0 / end")
NINE = ("print", lit(9))


def refused(function, *args):
    """What a call refuses, None if it refuses nothing."""
    try:
        function(*args)
    except NoRow as why:
        return why.where
    except BadEdit as why:
        return ("edit", why.where)
    return None


def texts(program):
    return [line.strip() for line in write_program(program).split("\n")]


def done(program, edit):
    """The program with the edit done, None if it cannot be done."""
    try:
        return edited(program, edit)
    except BadEdit:
        return None


def sorted_rows(program):
    return [(fun[1], number) for fun in program.funs for number, _, _ in numbered_rows(fun)]


def seeded_edits(seed, many):
    """Tuples of a program and an edit that can be done."""
    rng = random.Random(seed)
    for program in random_programs(seed, many):
        for _ in range(6):
            edit = random_edit(rng, program)
            if done(program, edit) is not None:
                yield rng, program, edit


class TestEdited(unittest.TestCase):
    def test_rows_at_all_depths(self):
        self.assertEqual(edited(MADE, ("main", 4, NINE)), written("\n".join(texts(MADE)).replace(
            "print 2", "print 9").replace("\n", " / ")))
        self.assertEqual(texts(edited(MADE, ("main", 3, NINE)))[2:8],
                         ["print 1", "if a", "print 9", "else", "print 3", "print 4"])
        self.assertEqual(texts(edited(MADE, ("main", 2, NINE)))[2:5], ["print 1", "print 9", "call f(lent a)"])
        self.assertEqual(texts(edited(MADE, ("f", 1, NINE)))[-4:], ["fun f(lent p)", "print 9", "return 0", "end"])

    def test_a_row_with_rows_inside_it(self):
        row = read_row(["if 1", "  loop 2", "    print 5", "  end", "else", "  set p = 7", "end"])
        made = edited(MADE, ("f", 1, row))
        self.assertEqual(made.fun("f")[4], (row, ("return", lit(0))))
        self.assertEqual((made.places, made.watches, made.fun("main")), (MADE.places, MADE.watches, MADE.fun("main")))

    def test_no_row(self):
        for number in (-1, 0, 11, 99):
            self.assertEqual(refused(edited, MADE, ("main", number, NINE)), f"main.{number}")
        for name in ("g", "a", "p", "", "Main"):
            self.assertEqual(refused(edited, MADE, (name, 1, NINE)), name)
            self.assertEqual(refused(edited, MADE, (name, 99, NINE)), name)

    def test_bad_edits(self):
        bad = ((("main", 1, ("print", ("name", "x"))), "unknown", "main.1"),
               (("main", 5, ("return", lit(0))), "close", "main.5"),
               (("main", 10, NINE), "close", "main"),
               (("main", 8, NINE), "pair", "main.9"),
               (("main", 9, NINE), "pair", "main.8"),
               (("f", 2, ("let", "x", None, lit(0))), "let", "f.2"),
               (("f", 2, ("loop", 1, (("if", lit(1), (("print", lit(1)),), ()),))), "many", "f.4"),
               (("main", 7, call("g")), "call", "main.7"),
               (("f", 1, ("loop", 4, (PRINT,))), "value", "f.1"),
               (("f", 1, ("let", "a", None, lit(0))), "twice", "a"))
        for edit, reason, where in bad:
            with self.assertRaises(BadEdit) as caught:
                edited(MADE, edit)
            self.assertEqual(caught.exception.where, f"{edit[0]}.{edit[1]}")
            cause = caught.exception.__cause__
            self.assertIsInstance(cause, BadProgram)
            self.assertEqual((cause.reason, cause.where), (reason, where))

    def test_a_function_that_is_not_called_any_more(self):
        made = written("fun main() / call f() / return 0 / end / fun f() / return 0 / end")
        with self.assertRaises(BadEdit) as caught:
            edited(made, ("main", 1, NINE))
        self.assertEqual((caught.exception.where, caught.exception.__cause__.where), ("main.1", "f"))

    def test_the_program_stays(self):
        before = write_program(MADE)
        edited(MADE, ("main", 2, NINE))
        refused(edited, MADE, ("main", 10, NINE))
        self.assertEqual(write_program(MADE), before)


class TestUndoing(unittest.TestCase):
    def test_the_row_that_stands_there(self):
        self.assertEqual(undoing(LOOPED, ("main", 2, NINE)), ("main", 2, ("loop", 2, (("print", lit(2)),))))
        self.assertEqual(undoing(LOOPED, ("main", 3, None)), ("main", 3, ("print", lit(2))))

    def test_it_puts_the_program_back(self):
        many = 0
        for _, program, edit in seeded_edits(131, 120):
            back = undoing(program, edit)
            self.assertEqual(back[:2], edit[:2])
            self.assertEqual(edited(edited(program, edit), back), program)
            many += size_of((edit[2],)) != size_of((back[2],))
        self.assertGreater(many, 40)

    def test_no_row(self):
        for edit in (("main", 0, NINE), ("main", 11, NINE), ("f", 4, NINE), ("g", 1, NINE), ("", 0, NINE)):
            wanted = edit[0] if edit[0] in ("g", "") else f"{edit[0]}.{edit[1]}"
            self.assertEqual(refused(undoing, MADE, edit), wanted)

    def test_an_edit_that_cannot_be_done(self):
        self.assertEqual(undoing(MADE, ("main", 10, NINE)), ("main", 10, ("return", lit(0))))


class TestMoved(unittest.TestCase):
    def test_the_example(self):
        self.assertEqual(moved(LOOPED, ("main", 4, NINE), ("main", 2, PRINT)), ("main", 3, NINE))

    def test_all_places(self):
        over = ("main", 2, read_row(["if 1", "  print 5", "end"]))
        told = {1: 1, 2: None, 3: None, 4: None, 5: None, 6: None, 7: 4, 8: 5, 9: 6, 10: 7}
        for number, wanted in told.items():
            found = moved(MADE, ("main", number, NINE), over)
            self.assertEqual(found, None if wanted is None else ("main", wanted, NINE))
        for number in (1, 2, 3):
            self.assertEqual(moved(MADE, ("f", number, NINE), over), ("f", number, NINE))

    def test_behind_an_edit_of_a_row_inside_another_one(self):
        over = ("main", 4, read_row(["loop 1", "  print 5", "  print 6", "end"]))
        self.assertEqual([moved(MADE, ("main", number, NINE), over) for number in (2, 3, 4, 5, 10)],
                         [("main", 2, NINE), ("main", 3, NINE), None, ("main", 7, NINE), ("main", 12, NINE)])

    def test_a_row_of_the_same_size(self):
        for number in (1, 2, 4, 5):
            self.assertEqual(moved(LOOPED, ("main", number, NINE), ("main", 3, PRINT)), ("main", number, NINE))
        self.assertIsNone(moved(LOOPED, ("main", 3, NINE), ("main", 3, NINE)))

    def test_no_row(self):
        fine, bad, worse = ("main", 1, NINE), ("main", 7, NINE), ("g", 9, NINE)
        self.assertEqual(refused(moved, LOOPED, bad, fine), "main.7")
        self.assertEqual(refused(moved, LOOPED, fine, bad), "main.7")
        self.assertEqual(refused(moved, LOOPED, bad, worse), "main.7")
        self.assertEqual(refused(moved, LOOPED, worse, bad), "g")
        self.assertEqual(refused(moved, LOOPED, fine, worse), "g")
        self.assertEqual(refused(moved, LOOPED, ("main", 0, NINE), fine), "main.0")

    def test_edits_that_cannot_be_done(self):
        bad = ("main", 2, ("return", lit(0)))
        self.assertIsNone(done(LOOPED, bad))
        self.assertEqual(moved(LOOPED, ("main", 5, start("t", "f")), bad), ("main", 4, start("t", "f")))
        self.assertEqual(moved(LOOPED, bad, ("main", 1, wait("t"))), bad)

    def test_both_orders(self):
        both = apart = 0
        for rng, program, one in seeded_edits(132, 150):
            for _ in range(4):
                other = random_edit(rng, program)
                if not self.are_apart(program, one, other):
                    continue
                apart += 1
                first, second = done(program, one), done(program, other)
                if first is None or second is None:
                    continue
                first = done(first, moved(program, other, one))
                second = done(second, moved(program, one, other))
                if first is not None and second is not None:
                    both += 1
                    self.assertEqual(first, second)
        self.assertGreater(min(both, apart), 200)

    def are_apart(self, program, one, other):
        if one[0] != other[0]:
            return True
        sizes = [size_of((row_at(program.fun(one[0]), edit[1]),)) for edit in (one, other)]
        return one[1] + sizes[0] <= other[1] or other[1] + sizes[1] <= one[1]

    def test_the_moved_edit_replaces_the_same_row(self):
        many = 0
        for _, program, over in seeded_edits(133, 60):
            made = edited(program, over)
            for name, number in sorted_rows(program):
                found = moved(program, (name, number, NINE), over)
                row = row_at(program.fun(name), number)
                if found is None:
                    self.assertEqual(name, over[0])
                elif name != over[0] or over[1] not in range(number, number + size_of((row,))):
                    many += 1
                    self.assertEqual(row_at(made.fun(name), found[1]), row)
                self.assertTrue(found is None or (found[0], found[2]) == (name, NINE))
        self.assertGreater(many, 500)


if __name__ == "__main__":
    unittest.main()
