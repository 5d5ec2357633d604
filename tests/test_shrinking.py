"""Programs one cut smaller, and shrunk programs [99, 100]."""

import random
import unittest

from quickways.books import Books
from quickways.deciding import books_for
from quickways.errors import BadProgram, NotLet, NotParted
from quickways.mixtures import Mixture
from quickways.partings import parting
from quickways.programs import Program
from quickways.runs import tell
from quickways.shrinking import shrunk, smaller
from quickways.stories import stories
from quickways.verdicts import faults, lets
from quickways.writing import write_program
from tests.helper import written
from tests.randoms import random_programs
from tests.test_agreement import chosen


def slashed(program):
    return " / ".join(line.strip() for line in write_program(program).split("\n"))


def slots(rows):
    """A tuple for each row in reading order: the row, and a function that gives the rows with others in its place.

    The function takes the rows list in which the row stands, without the row, and its index there."""
    found = []
    for at, row in enumerate(rows):
        found.append((row, lambda change, at=at: change(rows, at)))
        for which in range(2, len(row)) if row[0] in ("if", "loop") else ():
            for inner, rebuilt in slots(row[which]):
                found.append((inner, lambda change, at=at, row=row, which=which, rebuilt=rebuilt:
                              rows[:at] + (row[:which] + (rebuilt(change),) + row[which + 1:],) + rows[at + 1:]))
    return found


def put_in(new):
    return lambda rows, at: rows[:at] + new + rows[at + 1:]


def without(rows, at):
    """The rows without one, and without the partner of a start row."""
    behind = rows[at + 1:]
    if rows[at][0] == "start":
        behind = tuple(row for row in behind if row[0] != "wait" or row[2] != rows[at][1])
    return rows[:at] + behind


def pruned(funs):
    """The functions without those that no other one calls, again and again."""
    called = {row[2] for fun in funs for row, _ in slots(fun[4]) if row[0] in ("call", "start")}
    left = funs[:1] + tuple(fun for fun in funs[1:] if fun[1] in called)
    return left if left == funs else pruned(left)


def cuts_told(program):
    """The programs one cut smaller, as point 99 tells them."""
    trees = []
    for at, (word, name, params, kind, rows) in enumerate(program.funs):
        for row, rebuilt in slots(rows):
            changes = [without]
            changes += [put_in(row[2]), put_in(row[3])] if row[0] == "if" else []
            changes += [put_in(row[2])] if row[0] == "loop" else []
            for change in changes:
                fun = (word, name, params, kind, rebuilt(change))
                trees.append((program.places, pruned(program.funs[:at] + (fun,) + program.funs[at + 1:]),
                              program.watches))
    for at in range(len(program.watches)):
        trees.append((program.places, program.funs, program.watches[:at] + program.watches[at + 1:]))
    for at in range(len(program.places)):
        trees.append((program.places[:at] + program.places[at + 1:], program.funs, program.watches))
    found = []
    for tree in trees:
        try:
            found.append(Program(*tree))
        except BadProgram:
            pass
    return found


def cuts(text):
    return [slashed(program) for program in smaller(written(text))]


class TestSmaller(unittest.TestCase):
    def test_plain_rows(self):
        self.assertEqual(cuts("fun main() / print 1 / print 2 / return 0 / end"),
                         ["fun main() / print 2 / return 0 / end", "fun main() / print 1 / return 0 / end"])
        self.assertEqual(cuts("fun main() / return 0 / end"), [])

    def test_rows_that_are_needed(self):
        self.assertEqual(cuts("fun main() / let x = 1 / let y = 2 / print x / return y / end"),
                         ["fun main() / let x = 1 / let y = 2 / return y / end"])
        self.assertEqual(cuts("fun main() / let x = 1 / return 0 / end"), ["fun main() / return 0 / end"])

    def test_if_rows(self):
        self.assertEqual(cuts("fun main() / if 1 / print 2 / print 3 / else / print 4 / end / return 0 / end"), [
            "fun main() / return 0 / end", "fun main() / print 2 / print 3 / return 0 / end",
            "fun main() / print 4 / return 0 / end",
            "fun main() / if 1 / print 3 / else / print 4 / end / return 0 / end",
            "fun main() / if 1 / print 2 / else / print 4 / end / return 0 / end",
            "fun main() / if 1 / print 2 / print 3 / end / return 0 / end"])
        # Cuts that lead to equal programs all count.
        self.assertEqual(cuts("fun main() / if 1 / print 2 / end / return 0 / end"), [
            "fun main() / return 0 / end", "fun main() / print 2 / return 0 / end", "fun main() / return 0 / end",
            "fun main() / if 1 / end / return 0 / end"])
        self.assertEqual(cuts("fun main() / if 1 / end / return 0 / end"), ["fun main() / return 0 / end"] * 3)

    def test_if_rows_that_close(self):
        self.assertEqual(cuts("fun main() / if 1 / return 2 / else / return 3 / end / end"),
                         ["fun main() / return 2 / end", "fun main() / return 3 / end"])

    def test_loop_rows(self):
        self.assertEqual(cuts("fun main() / loop 3 / print 1 / print 2 / end / return 0 / end"), [
            "fun main() / return 0 / end", "fun main() / print 1 / print 2 / return 0 / end",
            "fun main() / loop 3 / print 2 / end / return 0 / end",
            "fun main() / loop 3 / print 1 / end / return 0 / end"])

    def test_start_rows_with_their_partners(self):
        self.assertEqual(cuts("fun main() / start t = f() / start u = f() / wait t / print 1 / wait u / return 0 / end "
                              "/ fun f() / return 0 / end"), [
            "fun main() / start u = f() / print 1 / wait u / return 0 / end / fun f() / return 0 / end",
            "fun main() / start t = f() / wait t / print 1 / return 0 / end / fun f() / return 0 / end",
            "fun main() / start t = f() / start u = f() / wait t / wait u / return 0 / end / fun f() / return 0 / end"])

    def test_start_rows_inside_other_rows(self):
        self.assertEqual(cuts("fun main() / loop 2 / start t = f() / wait t / end / return 0 / end / fun f() "
                              "/ return 0 "
                              "/ end"), [
            "fun main() / return 0 / end",
            "fun main() / start t = f() / wait t / return 0 / end / fun f() / return 0 / end",
            "fun main() / loop 2 / end / return 0 / end"])

    def test_functions_that_are_not_called_any_more(self):
        text = ("fun main() / call f() / call h() / return 0 / end / fun f() / call g() / return 0 / end / fun g() "
                "/ call h() / return 0 / end / fun h() / return 0 / end")
        self.assertEqual(cuts(text), [
            "fun main() / call h() / return 0 / end / fun h() / return 0 / end",
            "fun main() / call f() / return 0 / end / fun f() / call g() / return 0 / end / fun g() / call h() "
            "/ return 0 "
            "/ end / fun h() / return 0 / end",
            "fun main() / call f() / call h() / return 0 / end / fun f() / return 0 / end / fun h() / return 0 / end",
            "fun main() / call f() / call h() / return 0 / end / fun f() / call g() / return 0 / end / fun g() "
            "/ return 0 "
            "/ end / fun h() / return 0 / end"])
        self.assertEqual(cuts("fun main() / call f() / return 0 / end / fun f() / call g() / return 0 / end / fun g() "
                              "/ return 0 / end")[0], "fun main() / return 0 / end")

    def test_watches_and_places(self):
        self.assertEqual(cuts("place a = 1 / place b = 2 / place c = 3 / fun main() / return b / end "
                              "/ watch a 000000 good "
                              "/ watch a 000000 good 0"), [
            "place a = 1 / place b = 2 / place c = 3 / fun main() / return b / end / watch a 000000 good 0",
            "place a = 1 / place b = 2 / place c = 3 / fun main() / return b / end / watch a 000000 good",
            "place a = 1 / place b = 2 / fun main() / return b / end / watch a 000000 good / watch a 000000 good 0"])

    def test_against_the_words(self):
        many = 0
        for made in random_programs(171, 150):
            wanted = cuts_told(made)
            found = list(smaller(made))
            many += len(found)
            self.assertEqual([write_program(cut) for cut in found], [write_program(cut) for cut in wanted])
        self.assertGreater(many, 1000)


class TestShrunk(unittest.TestCase):
    def test_stories_are_shrunk(self):
        for story in stories():
            told = {"answers": story.answers, "weaving": story.weaving}
            for cut in smaller(story.program):
                self.assertIsNone(parting(cut, story.one, story.other, **told))
            self.assertEqual(shrunk(story.program, Books.none(), story.one, story.other, **told), story.program)

    def test_stories_with_more_in_them(self):
        made = written("place a = -50 / place b = 1 / fun main() / print b / call f(lent a) / print 2 / return 0 / end "
                       "/ fun f(lent p) / narrow p to small / call g() / narrow p to nat / print p / return 0 / end "
                       "/ fun g() / return 0 / end / watch b 000000 good 0")
        story = list(stories())[0]
        for books in (Books.none(), books_for(made)):
            self.assertEqual(shrunk(made, books, story.one, story.other), story.program)
        made = written("fun main() / loop 2 / if 1 / defer always print 1 / end / print 5 / end / return 0 / end")
        self.assertEqual(slashed(shrunk(made, Books.none(), Mixture(), Mixture.of("exits"))),
                         "fun main() / loop 2 / defer always print 1 / end / return 0 / end")
        self.assertEqual(slashed(shrunk(made, Books("tasks"), Mixture.of("tasks"), Mixture.of("exits", "casts"))),
                         "fun main() / loop 2 / defer always print 1 / end / return 0 / end")

    def test_cuts_that_the_books_do_not_let_are_passed_over(self):
        # The first cut that parts the mixtures leaves out the return row in f, and so makes a fault of exits.branch.
        made = written("fun main() / let x = 0 / let u = 0 / let v = 1 / defer always print x / call u = f(1) "
                       "/ call v = f(0) / set x = u - v / return 0 / end / fun f(y) / if y / return 1 / else "
                       "/ defer always print 9 / end / return 0 / end")
        self.assertEqual(faults(made), [("exits.stale", "main.4")])
        self.assertEqual(slashed(shrunk(made, Books("exits.branch"), Mixture(), Mixture.of("exits"))),
                         "fun main() / let x = 0 / let u = 0 / let v = 1 / defer always print x / call u = f(1) "
                         "/ call v = f(0) / set x = u - v / return 0 / end / fun f(y) / if y / return 1 / end "
                         "/ return 0 "
                         "/ end")
        self.assertEqual(slashed(shrunk(made, Books("exits.loop"), Mixture(), Mixture.of("exits"))),
                         "fun main() / let u = 0 / call u = f(1) / return 0 / end / fun f(y) / if y / else "
                         "/ defer always print 9 / end / return 0 / end")

    def test_not_let(self):
        made = written("fun main() / loop 2 / if 1 / defer always print 1 / end / end / return 0 / end")
        for books, rule in ((Books.full(), "exits.branch"), (Books("exits.loop", "watch"), "exits.loop")):
            for other in (Mixture(), Mixture.of("exits")):
                with self.assertRaises(NotLet) as caught:
                    shrunk(made, books, Mixture(), other)
                self.assertEqual((caught.exception.rule, caught.exception.where), (rule, "main.3"))

    def test_not_parted(self):
        for story in stories():
            for one, other in ((story.one, story.one), (story.other, story.other.twin())):
                with self.assertRaises(NotParted) as caught:
                    shrunk(story.program, Books.none(), one, other, answers=story.answers, weaving=story.weaving)
                self.assertEqual(caught.exception.index, 0)
        story = list(stories())[9]
        with self.assertRaises(NotParted):
            shrunk(story.program, Books.none(), story.one, story.other, weaving=story.weaving)

    def test_against_the_words(self):
        rng = random.Random(172)
        many = cut = 0
        for made in random_programs(173, 120):
            answers, weaving = chosen(rng)
            one, other = Mixture.numbered(rng.randrange(32)), Mixture.numbered(rng.randrange(32))

            def parts(program):
                return (tell(program, one, answers=answers, weaving=weaving)
                        != tell(program, other, answers=answers, weaving=weaving))

            if not parts(made):
                continue
            largest = books_for(made)
            for books in (Books.none(), largest, Books(*(rule for rule in largest if rng.random() < 0.5))):
                wanted = made
                left = [made]
                while left:
                    wanted = left[0]
                    left = [cut for cut in cuts_told(wanted) if lets(books, cut) and parts(cut)]
                found = shrunk(made, books, one, other, answers=answers, weaving=weaving)
                self.assertEqual(write_program(found), write_program(wanted))
                self.assertTrue(lets(books, found) and parts(found))
                many += 1
                cut += found != made
        self.assertGreater(min(many, cut), 15)


if __name__ == "__main__":
    unittest.main()
