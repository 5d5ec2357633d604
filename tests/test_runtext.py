"""The written forms of lines, records and runs [80]."""

import random
import unittest

from quickways.errors import BadText, NoStep
from quickways.mixtures import Mixture
from quickways.runs import Run
from quickways.runtext import line_text, read_number, read_run, record_text, telling_lines, write_run
from tests.helper import written
from tests.randoms import random_programs

COUNT = written("place a digit = 5 / fun main() / ask a / loop 3 / print a / end / return a / end")
FAILS = written("place a digit = 5 / fun main() / set a = 'red / return 0 / end")
FORK = written("place a = 5 / fun main() / start t = f(lent a) / wait t / return 0 / end / fun f(lent p) "
               "/ narrow p to word / print p / return 0 / end")
LINES = ["ways plain quick plain plain quick", "answers 1 'red -99", "weaving 0 12 3", "steps 2"]


def refused(function, *args):
    """What a call refuses, None if it refuses nothing."""
    try:
        function(*args)
    except BadText as why:
        return why.line
    except NoStep as why:
        return why.word
    return None


def lines_refused(*lines, program=COUNT):
    return refused(read_run, program, "\n".join(lines))


class TestLines(unittest.TestCase):
    def test_every_form(self):
        told = {("print", "red"): "print 'red", ("print", -5): "print -5", ("gives", -5): "gives -5",
                ("gives", "gives"): "gives 'gives", ("blames", "f.3+"): "blames f.3+", ("blames", "main.12"):
                "blames main.12", ("place", "a", 5): "place a 5", ("place", "red", "red"): "place red 'red",
                ("watch", "a", "kept"): "watch a kept", ("watch", "b1", "broken"): "watch b1 broken",
                ("print", 10 ** 70): "print 1" + "0" * 70}
        for line, text in told.items():
            self.assertEqual(line_text(line), text)
        self.assertEqual(line_text(None), "nothing")
        self.assertEqual(telling_lines(tuple(told)), list(told.values()))
        self.assertEqual(telling_lines(()), [])

    def test_a_telling(self):
        made = written("place a = 'red / fun main() / print 1 / return a / end / watch a 000000 good")
        self.assertEqual(telling_lines(Run(made, Mixture()).finish()),
                         ["print 1", "gives 'red", "place a 'red", "watch a broken"])

    def test_records(self):
        self.assertEqual(record_text(("0.1", "row", "f", 3, "f.3", ("a",), ("task 0.1",))), "0.1 row f 3 fails f.3")
        self.assertEqual(record_text(("0", "end", "main", 0, "", (), ("task 0",))), "0 end main 0")
        self.assertEqual(record_text(("0.2.1", "deed", "g1", 12, "f.2-", (), ())), "0.2.1 deed g1 12 fails f.2-")
        run = Run(FORK, Mixture())
        run.finish()
        self.assertEqual([record_text(record) for record in run], [
            "0 row main 1", "0.1 row f 1", "0.1 row f 2 fails f.1+", "0.1 end f 0", "0 row main 2", "0 end main 0"])


class TestNumbers(unittest.TestCase):
    def test_numbers(self):
        for number in (0, 1, 9, 10, 99, 100, 10 ** 59, 10 ** 60 - 1):
            self.assertEqual(read_number(str(number), 7), number)
            self.assertIs(type(read_number(str(number), 7)), int)

    def test_other_strings(self):
        for text in ("", "00", "01", "007", "-1", "-0", "+1", " 1", "1 ", "1.0", "a", "'a", "1e3", "1_000", "x1",
                     "1" * 61, "1" + "0" * 60, "0" * 61):
            for line in (1, 3, 40):
                self.assertEqual(refused(read_number, text, line), line, text)


class TestWriting(unittest.TestCase):
    def test_the_beginning(self):
        self.assertEqual(write_run(Run(COUNT, Mixture())),
                         "ways plain plain plain plain plain\nanswers\nweaving\nsteps 0")

    def test_the_middle_and_the_end(self):
        run = Run(COUNT, Mixture.of("loans", "watch"), answers=[1, "red", -99], weaving=(0, 12, 3))
        run.step()
        run.step()
        self.assertEqual(write_run(run).split("\n"), LINES)
        run.finish()
        self.assertEqual(write_run(run).split("\n"), LINES[:3] + ["steps 6"])
        run.back()
        self.assertEqual(write_run(run).split("\n"), LINES[:3] + ["steps 5"])


class TestReading(unittest.TestCase):
    def test_a_run(self):
        run = read_run(COUNT, "\n".join(LINES))
        self.assertIsInstance(run, Run)
        self.assertIs(run.program, COUNT)
        self.assertEqual((str(run.mixture), run.answers, run.weaving, len(run)),
                         ("plain quick plain plain quick", (1, "red", -99), (0, 12, 3), 2))
        self.assertEqual([record_text(record) for record in run], ["0 row main 1", "0 row main 3"])

    def test_nothing_can_be_done_again(self):
        run = Run(COUNT, Mixture())
        run.finish()
        run.back()
        with self.assertRaises(NoStep) as caught:
            read_run(COUNT, write_run(run)).again()
        self.assertEqual(caught.exception.word, "again")

    def test_seeded_runs(self):
        rng = random.Random(101)
        for made in random_programs(102, 40):
            mixture = Mixture.numbered(rng.randrange(32))
            answers = [rng.choice((1, -5, "red")) for _ in range(rng.randrange(4))]
            whole = Run(made, mixture, answers=answers, weaving=[rng.randrange(40) for _ in range(rng.randrange(9))])
            whole.finish()
            for steps in (0, len(whole) // 2, len(whole)):
                while len(whole) > steps:
                    whole.back()
                while len(whole) < steps:
                    whole.again()
                text = write_run(whole)
                run = read_run(made, text)
                self.assertEqual(write_run(run), text)
                self.assertEqual((run.trace, run.telling, run.answers, run.weaving, run.ready(), run.loan_deeds()),
                                 (whole.trace, whole.telling, whole.answers, whole.weaving, whole.ready(),
                                  whole.loan_deeds()))
                self.assertTrue(run.mixture == mixture)

    def test_spoilt_lines(self):
        spoilt = (
            ("", "ways", "ways ", "ways plain", "Ways plain quick plain plain quick",
             "ways plain quick plain plain slow",
             "ways plain quick plain plain quick ", "ways  plain quick plain plain quick",
             "plain quick plain plain quick",
             "ways plain quick plain plain quick quick", " ways plain quick plain plain quick", "answers"),
            ("", "answers ", "answer 1", "answers 1 ", "answers  1", "answers 100", "answers red", "answers '",
             "answers 01",
             "answers -0", "answers 1,2", "1 2", " answers", "weaving", "answers 'redgreen"),
            ("", "weaving ", "weavings", "weaving -1", "weaving 01", "weaving  1", "weaving 1 ", "weaving 'a",
             "weaving " + "1" * 61, "1", " weaving", "steps"),
            ("", "steps", "steps ", "steps 1 2", "steps -1", "steps 01", "steps  1", "steps 1 ", "step 1", "1",
             " steps 1",
             "steps " + "1" * 61, "steps 'a"))
        for at, texts in enumerate(spoilt):
            for text in texts:
                lines = list(LINES)
                lines[at] = text
                self.assertEqual(lines_refused(*lines), at + 1, text)
                # An earlier line goes first, and a missing or further line comes behind it.
                self.assertEqual(lines_refused(*lines, "more"), at + 1, text)
                self.assertEqual(lines_refused(*lines[:at + 1]), at + 1, text)
                self.assertEqual(lines_refused(*lines[:at + 1], *["bad"] * 3), at + 1, text)

    def test_missing_and_further_lines(self):
        for many in range(1, 4):
            self.assertEqual(lines_refused(*LINES[:many]), many + 1)
        self.assertEqual(lines_refused(*LINES, ""), 5)
        self.assertEqual(lines_refused(*LINES, "steps 2"), 5)
        self.assertEqual(lines_refused(*LINES, "a", "b", "c"), 5)
        self.assertEqual(lines_refused(*LINES[:3], "steps 99", "more"), 5)
        for at in range(4):
            self.assertEqual(lines_refused(*LINES[:at], *LINES[at + 1:]), at + 1)
            doubled = LINES[:at + 1] + LINES[at:]
            self.assertEqual(lines_refused(*doubled), at + 2)

    def test_too_many_steps(self):
        for steps, word in ((5, None), (6, None), (7, "step"), (10 ** 59, "step")):
            self.assertEqual(lines_refused(*LINES[:3], f"steps {steps}"), word)
        self.assertEqual(lines_refused(*LINES[:3], "steps 3", program=FAILS), "step")
        self.assertIsNone(lines_refused(*LINES[:3], "steps 2", program=FAILS))

    def test_long_numbers(self):
        text = "\n".join(LINES[:2] + ["weaving 0 " + "9" * 60, "steps 0"])
        run = read_run(COUNT, text)
        self.assertEqual((run.weaving, write_run(run)), ((0, 10 ** 60 - 1), text))


if __name__ == "__main__":
    unittest.main()
