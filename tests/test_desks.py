"""Desks, trials, rehearsals and saved texts [102, 105, 106]."""

import random
import unittest

from quickways.bookdesks import BookDesk
from quickways.books import Books
from quickways.desks import Desk, Trial
from quickways.edits import edited
from quickways.errors import BadEdit, BadOrder, BadPart, BadProgram, BadText, NoRow, NoStep, QuickError
from quickways.mixtures import Mixture
from quickways.relooking import Kept
from quickways.rundesks import RunDesk
from quickways.runs import Run
from quickways.runtext import write_run
from quickways.stories import stories
from quickways.verdicts import faults, verdict
from quickways.writing import write_program
from tests.helper import PRINT, lit, written
from tests.randoms import random_edit, random_programs
from tests.test_agreement import chosen
from tests.test_orders import refused, state
from tests.test_relooking import CHAIN
from tests.test_runtext import COUNT
from tests.test_verdicts import EVERY, WANTED

BEGINNING = "ways plain plain plain plain plain\nanswers\nweaving\nsteps 0"
FORK = written("place a = 1 / fun main() / start t = f() / print a / wait t / return 0 / end / fun f() / set a = 2 "
               "/ return 0 / end")


def look_at(desk):
    """All that can be seen of a Desk without changing it."""
    return (state(desk), desk.save(), desk.run.loan_deeds(), desk.run.rooms())


class TestRunDesk(unittest.TestCase):
    def test_the_beginning(self):
        desk = RunDesk(COUNT)
        self.assertIsInstance(desk.run, Run)
        self.assertIs(desk.run.program, COUNT)
        self.assertEqual(write_run(desk.run), BEGINNING)

    def test_begin(self):
        desk = RunDesk(COUNT)
        desk.order("step")
        mixture = Mixture.of("loans")
        self.assertIsNone(desk.begin(mixture=mixture))
        mixture["casts"] = "quick"
        self.assertEqual(write_run(desk.run), "ways plain quick plain plain plain\nanswers\nweaving\nsteps 0")
        answers = [1, "red"]
        self.assertIsNone(desk.begin(answers=answers))
        answers.clear()
        self.assertEqual(write_run(desk.run), "ways plain quick plain plain plain\nanswers 1 'red\nweaving\nsteps 0")
        desk.order("finish")
        self.assertIsNone(desk.begin(weaving=(3, 0)))
        self.assertEqual(write_run(desk.run),
                         "ways plain quick plain plain plain\nanswers 1 'red\nweaving 3 0\nsteps 0")
        desk.order("step")
        self.assertIsNone(desk.begin())
        self.assertEqual(write_run(desk.run),
                         "ways plain quick plain plain plain\nanswers 1 'red\nweaving 3 0\nsteps 0")
        desk.begin(mixture=Mixture(), answers=(), weaving=[])
        self.assertEqual(write_run(desk.run), BEGINNING)
        self.assertIs(desk.run.program, COUNT)

    def test_a_new_run(self):
        desk = RunDesk(COUNT)
        old = desk.run
        old.step()
        desk.begin()
        self.assertEqual((len(old), len(desk.run)), (1, 0))


class TestBookDesk(unittest.TestCase):
    def test_the_beginning(self):
        desk = BookDesk(EVERY)
        self.assertIsInstance(desk.kept, Kept)
        self.assertIs(desk.kept.program, EVERY)
        self.assertEqual((desk.books, desk.verdict()), (Books.full(), WANTED))

    def test_put_and_undo(self):
        desk = BookDesk(CHAIN)
        kept = Kept(CHAIN)
        for edit in (("g", 1, ("ask", "b")), ("h", 1, ("set", "b", lit(1)))):
            self.assertEqual(desk.put(edit), kept.put(edit))
            self.assertEqual((desk.kept.program, desk.kept.looks), (kept.program, kept.looks))
        for edit, why in ((("g", 9, PRINT), (NoRow, "g.9")), (("main", 3, PRINT), (BadEdit, "main.3"))):
            self.assertEqual(refused(desk.put, edit), why)
        while len(kept):
            self.assertEqual(desk.undo(), kept.undo())
            self.assertEqual((desk.kept.program, desk.kept.looks), (kept.program, kept.looks))
        self.assertEqual(refused(desk.undo), (NoStep, "undo"))

    def test_verdict(self):
        desk = BookDesk(EVERY)
        desk.order("ease loans exits")
        self.assertEqual(desk.verdict(), verdict(EVERY, ~Books("loans", "exits")))
        desk.verdict().clear()
        self.assertEqual(desk.verdict(), verdict(EVERY, ~Books("loans", "exits")))
        edit = ("main", 4, PRINT)
        with self.assertRaises(BadEdit):
            desk.put(edit)
        desk.put(("main", 2, ("set", "a", ("name", "b"))))
        self.assertEqual(desk.verdict(), verdict(desk.kept.program, desk.books))


class TestDesk(unittest.TestCase):
    def test_the_beginning(self):
        desk = Desk(EVERY)
        self.assertIsInstance(desk, RunDesk)
        self.assertIsInstance(desk, BookDesk)
        self.assertEqual((desk.run.program, desk.kept.program), (EVERY, EVERY))
        self.assertEqual((write_run(desk.run), desk.books, desk.verdict()), (BEGINNING, Books.full(), WANTED))

    def test_put_and_undo_begin_anew(self):
        desk = Desk(CHAIN)
        kept = Kept(CHAIN)
        desk.begin(mixture=Mixture.of("watch"), answers=(5,), weaving=(1,))
        front = "ways plain plain plain plain quick\nanswers 5\nweaving 1\nsteps"
        for edit in (("g", 1, ("ask", "b")), ("g", 1, ("ask", "b")), ("h", 1, ("set", "b", lit(1)))):
            desk.order("step")
            old = desk.run
            self.assertEqual(desk.put(edit), kept.put(edit))
            self.assertEqual((desk.kept.program, desk.run.program), (kept.program, kept.program))
            self.assertEqual((write_run(desk.run), len(old)), (f"{front} 0", 1))
        while len(kept):
            desk.order("step")
            self.assertEqual(desk.undo(), kept.undo())
            self.assertEqual((desk.kept.program, desk.run.program), (kept.program, kept.program))
            self.assertEqual(write_run(desk.run), f"{front} 0")
        desk.order("step")
        before = look_at(desk)
        self.assertEqual(refused(desk.undo), (NoStep, "undo"))
        self.assertEqual(refused(desk.put, ("main", 3, PRINT)), (BadEdit, "main.3"))
        self.assertEqual(refused(desk.put, ("x", 3, PRINT)), (NoRow, "x"))
        self.assertEqual(look_at(desk), before)

    def test_load(self):
        desk = Desk(EVERY)
        for line in ("ease loans", "turn casts", "answers 1", "weaving 2", "step", "put g 1 print 1"):
            desk.order(line)
        books = desk.books
        answers, weaving = ["red"], [7, 0]
        self.assertIsNone(desk.load(CHAIN, answers=answers, weaving=weaving))
        answers.clear()
        weaving.clear()
        self.assertIs(desk.books, books)
        self.assertEqual(desk.books, ~Books("loans"))
        self.assertEqual((desk.kept.program, desk.run.program, len(desk.kept), desk.kept.looks), (CHAIN, CHAIN, 0, 4))
        self.assertEqual(write_run(desk.run), "ways plain plain plain plain plain\nanswers 'red\nweaving 7 0\nsteps 0")
        self.assertEqual(desk.verdict(), verdict(CHAIN, desk.books))
        desk.load(COUNT)
        self.assertEqual(write_run(desk.run), BEGINNING)

    def test_two_desks_side_by_side(self):
        one, other = Desk(CHAIN), Desk(CHAIN)
        before = look_at(other)
        for line in ("ease exits", "turn loans", "answers 1 2", "step", "put g 1 ask b", "finish"):
            one.order(line)
        self.assertEqual(look_at(other), before)
        other.order("keep loans")
        self.assertEqual(look_at(other), before)
        self.assertEqual(one.kept.program, edited(CHAIN, ("g", 1, ("ask", "b"))))


def busy_desk():
    """A desk with edits, eased rules, steps, and a step that can be done again."""
    desk = Desk(CHAIN)
    for line in ("put g 1 ask b", "put h 1 set q = 5", "ease loans.name exits", "turn loans", "answers 3 'red",
                 "weaving 1",
                 "step", "step", "step", "back"):
        desk.order(line)
    return desk


class TestTrial(unittest.TestCase):
    def check_kept(self, desk, objects, before):
        kept, books, run = objects
        self.assertIs(desk.kept, kept)
        self.assertIs(desk.books, books)
        self.assertIs(desk.run, run)
        self.assertEqual(look_at(desk), before)

    def test_the_block(self):
        desk = busy_desk()
        objects, before = (desk.kept, desk.books, desk.run), look_at(desk)
        with Trial(desk) as same:
            self.assertIs(same, desk)
            for own, held in zip((desk.kept, desk.books, desk.run), objects):
                self.assertIsNot(own, held)
            self.assertEqual(desk.save(), before[1])
            self.assertEqual((len(desk.kept), desk.kept.looks), (0, 4))
            self.assertEqual((desk.run.trace, desk.run.ready(), desk.run.loan_deeds(), desk.run.rooms()),
                             (objects[2].trace, objects[2].ready(), before[2], before[3]))
            self.assertEqual(refused(desk.order, "undo"), (NoStep, "undo"))
            self.assertEqual(refused(desk.order, "again"), (NoStep, "again"))
            for line in ("keep exits", "step", "put g 1 print 7", "turn casts", "finish"):
                desk.order(line)
            self.assertNotEqual(desk.save(), before[1])
            self.assertEqual(len(desk.kept), 1)
        self.check_kept(desk, objects, before)
        self.assertEqual(desk.order("again"), ["0 row f 2"])
        self.assertEqual(desk.order("undo"), ["h"])

    def test_a_block_that_raises(self):
        for why in (BadPart("x"), KeyError("x"), KeyboardInterrupt()):
            desk = busy_desk()
            objects, before = (desk.kept, desk.books, desk.run), look_at(desk)
            with self.assertRaises(type(why)) as caught:
                with Trial(desk):
                    desk.order("ease casts")
                    desk.order("put g 1 print 7")
                    desk.load(COUNT)
                    raise why
            self.assertIs(caught.exception, why)
            self.check_kept(desk, objects, before)

    def test_a_block_that_is_left_by_other_ways(self):
        desk = busy_desk()
        objects, before = (desk.kept, desk.books, desk.run), look_at(desk)

        def leave():
            with Trial(desk) as same:
                same.order("finish")
                return len(same.run)

        self.assertGreater(leave(), 2)
        self.check_kept(desk, objects, before)
        for _ in range(3):
            with Trial(desk):
                desk.order("ease casts")
                continue
        self.check_kept(desk, objects, before)

    def test_one_inside_another(self):
        desk = busy_desk()
        objects, before = (desk.kept, desk.books, desk.run), look_at(desk)
        with Trial(desk):
            desk.order("put g 1 print 7")
            desk.order("step")
            inner, middle = (desk.kept, desk.books, desk.run), look_at(desk)
            with Trial(desk):
                self.assertEqual(len(desk.kept), 0)
                desk.order("ease casts")
                desk.order("put g 1 print 8")
            self.check_kept(desk, inner, middle)
            self.assertEqual(len(desk.kept), 1)
        self.check_kept(desk, objects, before)

    def test_one_trial_inside_itself(self):
        desk = busy_desk()
        objects, before = (desk.kept, desk.books, desk.run), look_at(desk)
        trial = Trial(desk)
        for _ in range(2):
            with trial:
                desk.order("put g 1 print 7")
                inner, middle = (desk.kept, desk.books, desk.run), look_at(desk)
                with trial as same:
                    self.assertIs(same, desk)
                    desk.order("ease casts")
                self.check_kept(desk, inner, middle)
            self.check_kept(desk, objects, before)

    def test_what_the_block_begins_with(self):
        # The desk is looked at when the block is entered, not when the trial is made.
        desk = Desk(CHAIN)
        trial = Trial(desk)
        desk.order("step")
        desk.order("ease casts")
        before = look_at(desk)
        with trial:
            self.assertEqual(len(desk.run), 1)
            desk.order("step")
        self.assertEqual(look_at(desk), before)

    def test_two_desks(self):
        one, other = busy_desk(), busy_desk()
        with Trial(one), Trial(other):
            one.order("finish")
            self.assertEqual(len(other.run), 2)
            other.order("ease casts")
        self.assertEqual((len(one.run), one.save()), (2, other.save()))


class TestRehearse(unittest.TestCase):
    def test_good_orders(self):
        desk = busy_desk()
        objects, before = (desk.kept, desk.books, desk.run), look_at(desk)
        lines = ("step", "put g 1 print 7", "step", "keep exits", "finish", "show", "undo", "verdict", "open",
                 "part tasks")
        told = desk.rehearse(*lines)
        self.assertEqual((desk.kept, desk.books, desk.run), objects)
        self.assertEqual(look_at(desk), before)
        wanted = [line for text in lines for line in desk.order(text)]
        self.assertEqual(told, wanted)

    def test_no_orders(self):
        desk = busy_desk()
        before = look_at(desk)
        self.assertEqual(desk.rehearse(), [])
        self.assertEqual(look_at(desk), before)

    def test_a_bad_order_at_each_place(self):
        good = ["put g 1 print 7", "step", "ease casts", "finish"]
        for at in range(len(good) + 1):
            for line, why in (("bad", BadOrder), ("", BadOrder), ("turn x", BadPart), ("put main 9 print 1", NoRow),
                              ("again", NoStep), ("put main 3 print 1", BadEdit), ("answers x", BadText)):
                desk = busy_desk()
                objects, before = (desk.kept, desk.books, desk.run), look_at(desk)
                lines = good[:at] + [line] + good[at:] + ["worse"]
                with self.assertRaises(BadOrder) as caught:
                    desk.rehearse(*lines)
                self.assertEqual(caught.exception.line, at + 1)
                cause = caught.exception.__cause__
                self.assertIs(type(cause), why)
                if why is BadOrder:
                    self.assertEqual(cause.line, 1)
                for own, held in zip((desk.kept, desk.books, desk.run), objects):
                    self.assertIs(own, held)
                self.assertEqual(look_at(desk), before)

    def test_orders_that_could_be_done_at_the_desk_itself(self):
        desk = busy_desk()
        for line in ("undo", "again"):
            with self.assertRaises(BadOrder) as caught:
                desk.rehearse(line)
            self.assertEqual((caught.exception.line, type(caught.exception.__cause__)), (1, NoStep))
        self.assertEqual(desk.order("again"), ["0 row f 2"])

    def test_inside_a_trial(self):
        desk = busy_desk()
        before = look_at(desk)
        with Trial(desk):
            desk.order("step")
            self.assertEqual(desk.rehearse("back", "back", "back"), ["0 row f 2", "0 row f 1", "0 row main 1"])
            self.assertEqual(len(desk.run), 3)
        self.assertEqual(look_at(desk), before)


def reading_refused(lines):
    return refused(Desk.read, "\n".join(lines))


class TestSaving(unittest.TestCase):
    LINES = ["books casts.fork tasks.ask", "ways plain quick plain plain quick", "answers 1", "weaving 2 0", "steps 3",
             "place a = 1", "fun main()", "  start t = f()", "  print a", "  wait t", "  return 0", "end", "fun f()",
             "  set a = 2", "  return 0", "end"]

    def test_save(self):
        desk = Desk(FORK)
        self.assertEqual(desk.save().split("\n")[:6], [
            "books " + " ".join(Books.full()), "ways plain plain plain plain plain", "answers", "weaving", "steps 0",
            "place a = 1"])
        for line in ("ease casts loans exits tasks watch", "keep tasks.ask casts", "ways plain quick plain plain quick",
                     "answers 1", "weaving 2 0", "finish"):
            desk.order(line)
        while len(desk.run) > 3:
            desk.order("back")
        self.assertEqual(desk.save().split("\n"), self.LINES)
        desk.order("ease casts tasks")
        self.assertEqual(desk.save().split("\n")[0], "books")

    def test_read(self):
        desk = Desk.read("\n".join(self.LINES))
        self.assertIsInstance(desk, Desk)
        self.assertEqual(desk.save().split("\n"), self.LINES)
        self.assertEqual((desk.kept.program, desk.run.program, len(desk.run)), (FORK, FORK, 3))
        self.assertEqual((len(desk.kept), desk.kept.looks), (0, 2))
        self.assertEqual(refused(desk.order, "undo"), (NoStep, "undo"))
        self.assertEqual(refused(desk.order, "again"), (NoStep, "again"))

    def test_many_states(self):
        rng = random.Random(191)
        for made in random_programs(192, 40):
            desk = Desk(made)
            answers, weaving = chosen(rng)
            desk.begin(mixture=Mixture.numbered(rng.randrange(32)), answers=answers, weaving=weaving)
            for _ in range(6):
                try:
                    desk.put(random_edit(rng, desk.kept.program))
                except QuickError:
                    pass
            desk.books -= Books(*(rule for rule in Books.full() if rng.random() < 0.5))
            for _ in range(rng.randrange(30)):
                if not desk.run.ended:
                    desk.order("step")
            if len(desk.run) and rng.random() < 0.5:
                desk.order("back")
            text = desk.save()
            self.assertEqual(text, "\n".join([" ".join(["books"] + list(desk.books)), write_run(desk.run),
                                              write_program(desk.kept.program)]))
            other = Desk.read(text)
            self.assertEqual(other.save(), text)
            self.assertEqual((other.kept.program, other.kept.faults(), other.verdict(), other.books),
                             (desk.kept.program, faults(desk.kept.program), desk.verdict(), desk.books))
            self.assertEqual((other.run.trace, other.run.telling, other.run.ready(), other.run.rooms(),
                              len(other.kept)),
                             (desk.run.trace, desk.run.telling, desk.run.ready(), desk.run.rooms(), 0))
            self.assertEqual(refused(other.order, "again"), (NoStep, "again"))

    def test_stories(self):
        for story in stories():
            desk = Desk(EVERY)
            desk.load(story.program, answers=story.answers, weaving=story.weaving)
            desk.order("finish")
            self.assertEqual(Desk.read(desk.save()).run.telling, story.tells(story.one))

    def test_spoilt_lines(self):
        spoilt = {0: ("", "book", "books ", "Books", "books casts", "books tasks.ask casts.fork",
                      "books casts.fork casts.fork",
                      "books  casts.fork", "books casts.fork ", "casts.fork", " books", "bookscasts.fork"),
                  1: ("ways", "ways plain", "plain plain plain plain plain"), 2: ("answers ", "answers 100", "answer"),
                  3: ("weaving -1", "weaving 01", ""), 4: ("steps", "steps 1 1", "steps 01"),
                  5: ("", "place a", " place a = 1"), 8: ("print a", "  prin a"), 15: ("end ", "")}
        for at, texts in spoilt.items():
            for text in texts:
                lines = self.LINES[:at] + [text] + self.LINES[at + 1:]
                self.assertEqual(reading_refused(lines), (BadText, at + 1), text)

    def test_lines_that_are_left_out(self):
        # Without one of the lines in front, the lines of the program begin with the line `fun main()`.
        told = {0: (BadText, 1), 8: None, 9: (BadProgram, "pair", "main.1"), 6: (BadText, 7), 7: (BadProgram, "pair",
                                                                                                  "main.2"),
                10: (BadProgram, "close", "main"), 11: (BadText, 12), 12: (BadText, 13), 13: None,
                14: (BadProgram, "close", "f"), 15: (BadText, 16), 5: (BadProgram, "unknown", "main.2")}
        for at, wanted in told.items():
            lines = self.LINES[:at] + self.LINES[at + 1:]
            if at == 0:
                self.assertEqual(reading_refused(lines), (BadText, 1))
            else:
                self.assertEqual(reading_refused(lines), wanted, at)
        for at in range(1, 5):
            # The program is read first, and then it has no place a.
            lines = self.LINES[:at] + self.LINES[at + 1:]
            self.assertEqual(reading_refused(lines), (BadProgram, "unknown", "main.2"))
            plain = lines[:5] + ["fun main()", "  return 0", "end"]
            self.assertEqual(reading_refused(plain), (BadText, at + 1))

    def test_lines_that_are_doubled(self):
        for at in range(5):
            lines = self.LINES[:at + 1] + self.LINES[at:]
            # One of the lines in front has become the first line of the program.
            self.assertEqual(reading_refused(lines), (BadText, 6), at)
        told = {5: (BadProgram, "twice", "a"), 6: (BadText, 8), 7: (BadProgram, "twice", "t"), 8: None,
                9: (BadProgram, "pair", "main.1"), 10: (BadProgram, "close", "main.4"), 11: (BadText, 13),
                12: (BadText, 14),
                13: None, 14: (BadProgram, "close", "f.2"), 15: (BadText, 17)}
        for at, wanted in told.items():
            self.assertEqual(reading_refused(self.LINES[:at + 1] + self.LINES[at:]), wanted, at)

    def test_fewer_than_six_lines(self):
        for many in range(1, 6):
            self.assertEqual(reading_refused(self.LINES[:many]), (BadText, 6))
            self.assertEqual(reading_refused(["books"] + ["bad"] * (many - 1)), (BadText, 6))
            self.assertEqual(reading_refused(["bad"] + self.LINES[1:many]), (BadText, 1))
        self.assertEqual(refused(Desk.read, ""), (BadText, 1))
        self.assertEqual(reading_refused(self.LINES[:5] + [""]), (BadText, 6))

    def test_the_order_of_the_looks(self):
        bad = list(self.LINES)
        bad[4] = "steps 99"
        self.assertEqual(reading_refused(bad), (NoStep, "step"))
        bad[3] = "weaving x"
        bad[2] = "answers x"
        self.assertEqual(reading_refused(bad), (BadText, 3))
        bad[1] = "ways"
        self.assertEqual(reading_refused(bad), (BadText, 2))
        bad[14] = "  return b"
        self.assertEqual(reading_refused(bad), (BadProgram, "unknown", "f.2"))
        bad[12] = "fun g("
        self.assertEqual(reading_refused(bad), (BadText, 13))
        bad.pop()
        self.assertEqual(reading_refused(bad), (BadText, 13))
        bad[0] = "books none"
        self.assertEqual(reading_refused(bad), (BadText, 1))

    def test_something_is_open_at_the_end(self):
        self.assertEqual(reading_refused(self.LINES[:-1]), (BadText, 16))
        self.assertEqual(reading_refused(self.LINES + [""]), (BadText, 17))

    def test_too_many_steps(self):
        lines = list(self.LINES)
        run = Run(FORK, Mixture.of("loans", "watch"), weaving=(2, 0))
        run.finish()
        lines[4] = f"steps {len(run)}"
        self.assertIsNone(reading_refused(lines))
        lines[4] = f"steps {len(run) + 1}"
        self.assertEqual(reading_refused(lines), (NoStep, "step"))


if __name__ == "__main__":
    unittest.main()
