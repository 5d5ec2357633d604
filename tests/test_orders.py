"""Orders for runs and for books [103, 104]."""

import unittest

from quickways.bookdesks import BookDesk
from quickways.bookorders import give_book_order
from quickways.books import Books
from quickways.desks import Desk
from quickways.edits import edited
from quickways.errors import BadEdit, BadOrder, BadPart, BadRule, BadText, NoRow, NoStep, QuickError
from quickways.mixtures import PARTS, Mixture, all_mixtures
from quickways.reading import read_row
from quickways.relooking import Kept
from quickways.rundesks import RunDesk
from quickways.runorders import give_run_order
from quickways.runs import Run
from quickways.runtext import record_text, telling_lines, write_run
from quickways.stories import stories
from quickways.verdicts import verdict
from quickways.writing import write_program
from tests.helper import written
from tests.test_runtext import COUNT
from tests.test_verdicts import EVERY, WANTED

RUN_WORDS = ("ways", "turn", "answers", "weaving", "step", "back", "again", "finish", "part")
BOOK_WORDS = ("keep", "ease", "verdict", "open", "show", "put", "undo")
STORY = written("place a = -50 / fun main() / call f(lent a) / return 0 / end / fun f(lent p) / narrow p to small "
                "/ narrow p to nat / print p / return 0 / end")
BOTH = (("fun main() / print 1 / print 2 / return 0 / end"),
        ("fun main() / call f() / return 0 / end / fun f() / return 1 / end"))


def state(desk):
    """All that orders can change at a desk."""
    told = []
    if isinstance(desk, RunDesk):
        run = desk.run
        told += [run.program, write_run(run), run.trace, run.telling, run.ready(), undone(run)]
    if isinstance(desk, BookDesk):
        told += [desk.kept.program, desk.kept.looks, len(desk.kept), desk.kept.faults(), str(desk.books),
                 desk.verdict()]
    return told


def undone(run):
    """The records that can be done again, in the order in which they would be; the run is then as before."""
    found = []
    while True:
        try:
            found.append(run.again())
        except NoStep:
            break
    for _ in found:
        run.back()
    return found


def refused(function, *args):
    """The class of the error that a call raises and what it tells, None if it raises none."""
    try:
        function(*args)
    except QuickError as why:
        return (type(why), *vars(why).values())
    return None


class TestRunOrders(unittest.TestCase):
    def setUp(self):
        self.desks = [RunDesk(COUNT), Desk(COUNT)]

    def both(self, line, told):
        """Each desk tells these lines, by its own order and by the function; the two come to the same."""
        for at, desk in enumerate(self.desks):
            self.assertEqual(desk.order(line) if at else give_run_order(desk, line), told)
        self.assertEqual(write_run(self.desks[0].run), write_run(self.desks[1].run))

    def run_lines(self):
        return write_run(self.desks[0].run).split("\n")

    def test_ways(self):
        self.both("step", ["0 row main 1"])
        for mixture in all_mixtures():
            self.both(f"ways {mixture}", [])
            self.assertEqual(self.run_lines(), [f"ways {mixture}", "answers", "weaving", "steps 0"])

    def test_turn(self):
        self.both("answers 1 'red", [])
        mixture = Mixture()
        for part in PARTS + PARTS[1:3]:
            self.both("step", ["0 row main 1"])
            self.both(f"turn {part}", [])
            mixture ^= part
            self.assertEqual(self.run_lines(), [f"ways {mixture}", "answers 1 'red", "weaving", "steps 0"])

    def test_answers(self):
        self.both("turn loans", [])
        for text in ("answers 1 'red -99", "answers", "answers 0 0"):
            self.both("step", ["0 row main 1"])
            self.both(text, [])
            self.assertEqual(self.run_lines(), ["ways plain quick plain plain plain", text, "weaving", "steps 0"])
        self.both("answers 'red", [])
        self.both("step", ["0 row main 1 fails main.1"])

    def test_weaving(self):
        self.both("answers 7", [])
        for text in ("weaving 0 12 3", "weaving", "weaving " + "9" * 60):
            self.both("finish", ["print 7", "print 7", "print 7", "gives 7", "place a 7"])
            self.both(text, [])
            self.assertEqual(self.run_lines(), ["ways plain plain plain plain plain", "answers 7", text, "steps 0"])

    def test_steps(self):
        self.both("answers 2", [])
        self.both("step", ["0 row main 1"])
        self.both("step", ["0 row main 3"])
        self.both("back", ["0 row main 3"])
        self.both("back", ["0 row main 1"])
        self.both("again", ["0 row main 1"])
        self.both("finish", ["print 2", "print 2", "print 2", "gives 2", "place a 2"])
        self.assertEqual(self.run_lines()[3], "steps 6")
        self.both("finish", ["print 2", "print 2", "print 2", "gives 2", "place a 2"])
        self.both("back", ["0 end main 0"])
        self.both("again", ["0 end main 0"])

    def test_no_step(self):
        for word, front in (("back", ()), ("again", ()), ("again", ("step",)), ("step", ("finish",)),
                            ("again", ("step", "back", "step")), ("again", ("step", "back", "turn casts")),
                            ("back", ("step", "answers 1"))):
            for desk in (RunDesk(COUNT), Desk(COUNT)):
                for line in front:
                    desk.order(line)
                before = state(desk)
                self.assertEqual(refused(desk.order, word), (NoStep, word))
                self.assertEqual(refused(give_run_order, desk, word), (NoStep, word))
                self.assertEqual(state(desk), before)

    def test_part(self):
        self.desks = [RunDesk(STORY), Desk(STORY)]
        self.both("step", ["0 row main 1"])
        before = [state(desk) for desk in self.desks]
        self.both("part casts", ["0", "blames f.1+", "blames f.2+"])
        for part in PARTS[1:]:
            self.both(f"part {part}", ["same"])
        self.assertEqual([state(desk) for desk in self.desks], before)
        self.both("turn casts", [])
        self.both("part casts", ["0", "blames f.2+", "blames f.1+"])

    def test_part_of_all_stories(self):
        for story in stories():
            desk = RunDesk(story.program)
            desk.begin(answers=story.answers, weaving=story.weaving)
            one, other = (telling_lines(story.tells(mixture)) for mixture in (story.one, story.other))
            index = [first != second for first, second in zip(one, other)].index(True)
            self.assertEqual(desk.order(f"part {story.part}"), [str(index), one[index], other[index]])
            self.assertEqual([desk.order(f"part {part}") for part in PARTS if part != story.part], [["same"]] * 4)

    def test_other_errors(self):
        bad = (("ways plain", (BadText, 1)), ("ways", (BadText, 1)), ("ways plain plain plain plain slow", (BadText,
                                                                                                            1)),
               ("ways plain plain plain plain plain plain", (BadText, 1)), ("turn cast", (BadPart, "cast")),
               ("turn casts.fork", (BadPart, "casts.fork")), ("answers 1 red", (BadText, 1)), ("answers 100", (BadText,
                                                                                                               1)),
               ("answers 01", (BadText, 1)), ("weaving -1", (BadText, 1)), ("weaving 1 01", (BadText, 1)),
               ("weaving " + "9" * 61, (BadText, 1)), ("weaving 'a", (BadText, 1)), ("part any", (BadPart, "any")))
        for desk in self.desks:
            for line in ("answers 2 3", "turn watch", "step", "step", "back"):
                desk.order(line)
            before = state(desk)
            for line, why in bad:
                self.assertEqual(refused(desk.order, line), why, line)
                self.assertEqual(refused(give_run_order, desk, line), why, line)
                self.assertEqual(state(desk), before)


class TestBookOrders(unittest.TestCase):
    def setUp(self):
        self.desks = [BookDesk(EVERY), Desk(EVERY)]

    def both(self, line, told):
        """Each desk tells these lines, by its own order and by the function; the two come to the same."""
        for at, desk in enumerate(self.desks):
            self.assertEqual(desk.order(line) if at else give_book_order(desk, line), told)
        one, other = self.desks
        self.assertEqual((one.kept.program, one.kept.looks, len(one.kept), str(one.books)),
                         (other.kept.program, other.kept.looks, len(other.kept), str(other.books)))

    def test_verdict(self):
        self.both("verdict", [f"{rule} {where}" for rule, where in WANTED])
        self.assertEqual(self.desks[0].verdict(), WANTED)

    def test_keep_and_ease(self):
        books = Books.full()
        for word, terms in (("ease", ("loans", "watch.still")), ("keep", ("loans.task",)), ("ease", ()),
                            ("ease", ("exits.loop", "exits", "tasks.ask")), ("keep", ()), ("keep", ("watch", "watch")),
                            ("ease", PARTS), ("keep", ("exits.stale", "casts")), ("keep", PARTS)):
            for term in terms:
                books[term] = word == "keep"
            self.both(" ".join((word,) + terms), [f"{rule} {where}" for rule, where in verdict(EVERY, books)])
            for desk in self.desks:
                self.assertEqual(desk.books, books)
                self.assertEqual(desk.verdict(), verdict(EVERY, books))

    def test_bad_terms(self):
        for desk in self.desks:
            desk.order("ease exits loans.name")
            before = state(desk)
            for word in ("keep", "ease"):
                for text, term in (("bad", "bad"), ("exits worse bad", "worse"), ("loans.name casts.forks",
                                                                                  "casts.forks"),
                                   ("Exits", "Exits")):
                    self.assertEqual(refused(desk.order, f"{word} {text}"), (BadRule, term))
                    self.assertEqual(refused(give_book_order, desk, f"{word} {text}"), (BadRule, term))
                    self.assertEqual(state(desk), before)

    def test_parts_that_are_open(self):
        self.both("open", [])
        self.both("ease exits.loop loans.task", [f"{rule} {where}" for rule, where in WANTED
                                                 if rule not in ("exits.loop", "loans.task")])
        self.both("open", ["exits"])
        for desk in self.desks:
            desk.order("ease tasks.share")
        self.both("open", ["loans", "exits", "tasks"])
        for desk in self.desks:
            desk.order("ease casts loans exits tasks watch")
        self.both("open", list(PARTS))

    def test_show(self):
        self.both("show", write_program(EVERY).split("\n"))

    def test_put_and_undo(self):
        kept = Kept(EVERY)
        for line in ("put main 4 print 'red", "put h 2 set x = (x + 1) - 2", "put main 5 start u = h()",
                     "put f 1 print 1",
                     "put g 1 narrow p to nat", "put main 8 print 7", "put main 7 return b"):
            _, fun, number, text = line.split(" ", 3)
            edit = (fun, int(number), read_row([text]))
            error = refused(kept.preview, edit)
            if error is None:
                self.both(line, list(kept.put(edit)))
            else:
                for desk in self.desks:
                    self.assertEqual(refused(desk.order, line), error)
            self.both("show", write_program(kept.program).split("\n"))
            self.both("verdict", [f"{rule} {where}" for rule, where in kept.faults()])
        self.assertEqual(len(kept), 5)
        while len(kept):
            self.both("undo", list(kept.undo()))
        self.assertEqual(self.desks[1].kept.program, EVERY)
        for desk in self.desks:
            before = state(desk)
            self.assertEqual(refused(desk.order, "undo"), (NoStep, "undo"))
            self.assertEqual(state(desk), before)

    def test_errors_of_put(self):
        bad = (("put main 1 prin 1", (BadText, 1)), ("put x 01 print", (BadText, 1)), ("put x 01 print 1", (BadText,
                                                                                                            1)),
               ("put x -1 print 1", (BadText, 1)), ("put main 1x loop 2", (BadText, 2)), ("put x y if 1", (BadText, 2)),
               ("put x y else", (BadText, 1)), ("put x y end", (BadText, 1)), ("put x 1 print 1", (NoRow, "x")),
               ("put main 0 print 1", (NoRow, "main.0")), ("put main 9 print 1", (NoRow, "main.9")),
               ("put main " + "9" * 60 + " print 1", (NoRow, "main." + "9" * 60)),
               ("put main " + "9" * 61 + " print 1", (BadText, 1)),
               ("put main 7 print 1", (BadEdit, "main.7")), ("put main 1 print a", (BadEdit, "main.1")),
               ("put f 3 print zz", (BadEdit, "f.3")))
        for desk in self.desks:
            desk.order("put g 1 print 5")
            before = state(desk)
            for line, why in bad:
                self.assertEqual(refused(desk.order, line), why, line)
                self.assertEqual(refused(give_book_order, desk, line), why, line)
                self.assertEqual(state(desk), before)

    def test_the_cause_of_a_bad_edit(self):
        with self.assertRaises(BadEdit) as caught:
            self.desks[0].order("put main 7 print 1")
        self.assertEqual(caught.exception.__cause__.reason, "close")


class TestForms(unittest.TestCase):
    def bad_orders(self, desk, lines):
        before = state(desk)
        for line in lines:
            self.assertEqual(refused(desk.order, line), (BadOrder, 1), line)
        self.assertEqual(state(desk), before)

    def test_empty_items(self):
        for desk in (RunDesk(COUNT), BookDesk(COUNT), Desk(COUNT)):
            self.bad_orders(desk, ("", " ", "  ", " step", "step ", "finish ", "verdict ", " verdict", "keep  casts",
                                   "keep casts ", "ways plain plain  plain plain plain", "answers ", "answers 1  2",
                                   "weaving 1 ", "put main 1  print 1", "put main 1 print  1", "put  main 1 print 1",
                                   "turn  casts", "open ", "show "))

    def test_unknown_words(self):
        for desk in (RunDesk(COUNT), BookDesk(COUNT), Desk(COUNT)):
            self.bad_orders(desk, ("Step", "steps", "way", "load", "save", "rehearse", "begin", "open,", "casts", "0",
                                   "'step",
                                   "none", "to step", "STEP"))

    def test_words_of_the_other_kind(self):
        fine = {"turn": "turn casts", "part": "part casts", "put": "put main 1 print 1"}
        self.bad_orders(RunDesk(COUNT), [fine.get(word, word) for word in BOOK_WORDS])
        self.bad_orders(BookDesk(COUNT), [fine.get(word, word) for word in RUN_WORDS])
        desk = Desk(COUNT)
        before = state(desk)
        for word in BOOK_WORDS:
            self.assertEqual(refused(give_run_order, desk, fine.get(word, word)), (BadOrder, 1))
        for word in RUN_WORDS:
            self.assertEqual(refused(give_book_order, desk, fine.get(word, word)), (BadOrder, 1))
        self.assertEqual(state(desk), before)

    def test_numbers_of_items(self):
        runs = ("turn", "turn casts loans", "turn bad worse", "step 1", "back 1", "again 1", "finish 1", "step step",
                "part",
                "part casts loans", "part bad worse")
        books = ("verdict casts", "open 1", "show main", "undo 1", "put", "put main", "put main 1", "put x y")
        for desk in (RunDesk(COUNT), Desk(COUNT)):
            self.bad_orders(desk, runs)
        for desk in (BookDesk(COUNT), Desk(COUNT)):
            self.bad_orders(desk, books)

    def test_before_all_other_errors(self):
        for desk in (RunDesk(COUNT), Desk(COUNT)):
            self.bad_orders(desk, ("back 2", "again 2", "turn bad ", "answers bad ", "ways bad ", "weaving bad "))
        for desk in (BookDesk(COUNT), Desk(COUNT)):
            self.bad_orders(desk, ("undo 2", "keep bad ", "ease  bad", "put x y bad ", "put x y"))


class TestBothAtOneDesk(unittest.TestCase):
    def test_an_edit_begins_anew(self):
        desk = Desk(COUNT)
        for line in ("turn exits", "answers 3 4", "weaving 5", "finish"):
            desk.order(line)
        self.assertEqual(desk.order("put main 3 print 9"), ["main"])
        self.assertEqual(write_run(desk.run), "ways plain plain quick plain plain\nanswers 3 4\nweaving 5\nsteps 0")
        self.assertEqual(desk.order("finish"), ["print 9", "print 9", "print 9", "gives 3", "place a 3"])
        self.assertEqual(desk.order("undo"), ["main"])
        self.assertEqual(write_run(desk.run), "ways plain plain quick plain plain\nanswers 3 4\nweaving 5\nsteps 0")
        self.assertEqual(desk.order("finish"), ["print 3", "print 3", "print 3", "gives 3", "place a 3"])

    def test_records_and_tellings(self):
        for story in stories():
            desk = Desk(story.program)
            desk.begin(mixture=story.other, answers=story.answers, weaving=story.weaving)
            run = Run(story.program, story.other, answers=story.answers, weaving=story.weaving)
            while not run.ended:
                self.assertEqual(desk.order("step"), [record_text(run.step())])
            self.assertEqual(desk.order("finish"), telling_lines(run.telling))

    def test_an_edited_program_is_run(self):
        for text in BOTH:
            desk = Desk(written(text))
            number = len(desk.kept.program.fun("main")[4])
            desk.order(f"put main {number} return 5")
            made = edited(written(text), ("main", number, ("return", ("lit", 5))))
            self.assertEqual((desk.run.program, desk.kept.program), (made, made))
            self.assertEqual(desk.order("finish")[-1], "gives 5")


if __name__ == "__main__":
    unittest.main()
