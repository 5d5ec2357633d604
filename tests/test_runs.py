"""Runs as objects, weavings and picks [26, 49, 50, 75, 78]."""

import random
import unittest

from quickways.errors import NoStep, TooLarge
from quickways.mixtures import Mixture, all_mixtures
from quickways.runs import Run, tell, tell_classes, weavings
from tests.helper import written
from tests.randoms import random_programs

TWO = written("place a = 0 / fun main() / start t = f(1) / start u = f(2) / print a / wait t / wait u / return a / end "
              "/ fun f(x) / set a = a + x / return 0 / end / watch a 100000 111111 good 0")
ASKING = written("place a digit = 5 / fun main() / ask a / call f(lent a) / print a / return 0 / end "
                 "/ fun f(lent p) / defer always print p / set p = p + 1 / return 0 / end")


def words(run):
    """All that can be seen of a run."""
    return (len(run), list(run), run.trace, run.ended, run.telling, run.ready(), run.loan_deeds(), run.rooms())


def refused(function):
    try:
        function()
    except NoStep as why:
        return why.word
    return None


def tasks_of(run):
    return [record[0] for record in run]


def all_weavings(*args, **more):
    found = []
    try:
        for one in weavings(*args, **more):
            found.append(one)
    except TooLarge as why:
        return found, why.most
    return found, None


class TestRun(unittest.TestCase):
    def test_fields(self):
        mixture = Mixture.of("loans")
        run = Run(ASKING, mixture, answers=[1, "red"], weaving=[0, 5])
        self.assertIs(run.program, ASKING)
        self.assertTrue(run.mixture == mixture and run.mixture is not mixture)
        self.assertEqual((run.answers, run.weaving, run.telling), ((1, "red"), (0, 5), None))
        self.assertEqual((Run(ASKING, mixture).answers, Run(ASKING, mixture).weaving), ((), ()))

    def test_the_beginning(self):
        run = Run(TWO, Mixture())
        self.assertEqual(words(run), (0, [], (), False, None, ["0"], [], (0, 0, 0)))

    def test_steps(self):
        run = Run(ASKING, Mixture(), answers=(6,))
        first = run.step()
        self.assertEqual(first, ("0", "row", "main", 1, "", (), ("a", "answers", "task 0")))
        self.assertEqual(words(run), (1, [first], (first,), False, None, ["0"], [("write", "a", 6)], (0, 0, 0)))
        found = [first]
        while not run.ended:
            self.assertIsNone(run.telling)
            found.append(run.step())
        self.assertEqual((list(run), run.trace, len(run)), (found, tuple(found), 10))
        self.assertEqual((run.ended, run.ready()), (True, []))
        self.assertEqual(run.telling, (("print", 6), ("print", 7), ("gives", 0), ("place", "a", 7)))

    def test_no_step(self):
        run = Run(ASKING, Mixture(), answers=(6,))
        self.assertEqual((refused(run.back), refused(run.again)), ("back", "again"))
        before = words(run)
        self.assertEqual(before, words(Run(ASKING, Mixture(), answers=(6,))))
        run.finish()
        before = words(run)
        self.assertEqual((refused(run.step), refused(run.again)), ("step", "again"))
        self.assertEqual(words(run), before)

    def test_finish(self):
        run = Run(ASKING, Mixture(), answers=(6,))
        run.step()
        telling = run.finish()
        self.assertEqual((telling, run.telling, run.finish()),
                         (run.telling, tell(ASKING, Mixture(), answers=(6,)), telling))

    def test_back_and_again_in_every_state(self):
        for made in [TWO, ASKING] + random_programs(81, 12) + random_programs(82, 6, calm=True):
            for mixture in list(all_mixtures())[::7]:
                run = Run(made, mixture, answers=(5, 1), weaving=(1, 2, 0, 3, 1, 1))
                states = [words(run)]
                while not run.ended:
                    run.step()
                    states.append(words(run))
                for at in range(len(states) - 1, 0, -1):
                    self.assertEqual(run.back(), states[at][1][-1])
                    self.assertEqual(words(run), states[at - 1])
                self.assertEqual(refused(run.back), "back")
                for at in range(1, len(states)):
                    self.assertEqual(run.again(), states[at][1][-1])
                    self.assertEqual(words(run), states[at])
                self.assertEqual((refused(run.again), refused(run.step)), ("again", "step"))

    def test_a_new_step_forgets(self):
        run = Run(TWO, Mixture(), weaving=(0, 1, 2, 1))
        for _ in range(5):
            run.step()
        five = words(run)
        for _ in range(3):
            run.back()
        run.again()
        self.assertEqual(len(run), 3)
        run.step()
        self.assertEqual((len(run), refused(run.again)), (4, "again"))
        run.step()
        self.assertEqual(words(run), five)
        self.assertEqual(run.back(), five[1][-1])
        self.assertEqual(run.again(), five[1][-1])

    def test_finish_forgets_too(self):
        run = Run(TWO, Mixture())
        telling = run.finish()
        run.back()
        self.assertEqual((run.telling, run.ended), (None, False))
        self.assertEqual(run.finish(), telling)
        self.assertEqual(refused(run.again), "again")
        run.back()
        run.back()
        run.again()
        self.assertIsNone(run.telling)
        run.again()
        self.assertEqual(run.telling, telling)

    def test_going_there_and_back(self):
        rng = random.Random(3)
        for made in random_programs(83, 10, calm=True):
            states = {}
            run = Run(made, Mixture.of("loans", "exits"), weaving=(1, 1, 1, 1, 1, 1, 1))
            undone = 0
            for _ in range(60):
                word = rng.choice(("step", "step", "back", "again"))
                wanted = {"step": None if not run.ended else "step", "back": None if len(run) else "back",
                          "again": None if undone else "again"}[word]
                count = len(run)
                self.assertEqual(refused(getattr(run, word)), wanted)
                if wanted is None:
                    undone = {"step": 0, "back": undone + 1, "again": undone - 1}[word]
                    count += -1 if word == "back" else 1
                self.assertEqual(states.setdefault(count, words(run)), words(run))

    def test_what_is_given_is_copied(self):
        mixture, answers, weaving = Mixture.of("casts"), [6], [0, 1]
        run = Run(TWO, mixture, answers=answers, weaving=weaving)
        other = Run(TWO, Mixture.of("casts"), answers=[6], weaving=[0, 1])
        mixture["tasks"] = "quick"
        answers.append(7)
        weaving[1] = 0
        run.step()
        list(run).clear()
        run.ready().clear()
        run.loan_deeds().append(("read", "a"))
        other.step()
        self.assertEqual(words(run), words(other))
        self.assertEqual((run.finish(), list(run)), (other.finish(), list(other)))
        self.assertEqual((run.mixture["tasks"], run.answers, run.weaving), ("plain", (6,), (0, 1)))

    def test_runs_are_apart(self):
        one, two = Run(TWO, Mixture()), Run(TWO, Mixture())
        one.finish()
        self.assertEqual(words(two), words(Run(TWO, Mixture())))


class TestReady(unittest.TestCase):
    TEXT = written("fun main() / start t = f() / start u = g() / wait t / wait u / return 0 / end / fun g() "
                   "/ start t = f() / wait t / return 0 / end "
                   "/ fun f() / return 0 / end")

    def test_both_ways(self):
        for quick, weaving in (((), ()), (("tasks",), (1, 1, 1, 1, 1, 1))):
            run = Run(self.TEXT, Mixture.of(*quick), weaving=weaving)
            found = [run.ready()]
            while not run.ended:
                run.step()
                found.append(run.ready())
            self.assertEqual(tasks_of(run),
                             ["0", "0", "0.1", "0.1", "0", "0.2", "0.2.1", "0.2.1", "0.2", "0.2", "0.2", "0", "0", "0"])
            self.assertEqual(found, [["0"], ["0", "0.1"], ["0.1", "0.2"], ["0.1", "0.2"], ["0", "0.2"], ["0.2"],
                                     ["0.2.1"], ["0.2.1"], ["0.2"], ["0.2"], ["0.2"],
                                     ["0"], ["0"], ["0"], []])

    def test_paths_are_compared_as_tuples(self):
        made = written("fun main() / loop 2 / start t = f() / start u = f() / start v = f() / start w = f() "
                       "/ wait t / wait u / wait v / wait w / end "
                       "/ start y = f() / start z = f() / wait z / wait y / return 0 / end / fun f() / return 0 / end")
        run = Run(made, Mixture())
        found = set()
        while not run.ended:
            found.add(tuple(run.ready()))
            run.step()
        self.assertIn(("0.9", "0.10"), found)


class TestWeaving(unittest.TestCase):
    def test_plain(self):
        for weaving, wanted in (((), "0 0 0 0.1 0.1 0.1 0 0.2 0.2 0.2 0 0 0"),
                                ((0, 1, 0, 2, 1), "0 0.1 0 0.2 0.1 0 0.1 0 0.2 0.2 0 0 0"),
                                ((7, 5, 0, 9), "0 0.1 0 0 0.1 0.1 0 0.2 0.2 0.2 0 0 0"),
                                ((0, 0, 2, 5, 2, 0, 0), "0 0 0.2 0.2 0.2 0 0.1 0.1 0.1 0 0 0 0")):
            run = Run(TWO, Mixture(), weaving=weaving)
            run.finish()
            self.assertEqual(tasks_of(run), wanted.split(" "))

    def test_what_the_weaving_changes(self):
        self.assertEqual(tell(TWO, Mixture())[0], ("print", 0))
        self.assertEqual(tell(TWO, Mixture(), weaving=(0, 1, 1, 0, 0))[0], ("print", 1))
        self.assertEqual(tell(TWO, Mixture(), weaving=(0, 0, 1, 2))[0], ("print", 3))

    def test_quick(self):
        for weaving in ((), (1,) * 30, (0, 1, 2, 1)):
            run = Run(TWO, Mixture.of("tasks"), weaving=weaving)
            run.finish()
            self.assertEqual(tasks_of(run), ["0"] * 3 + ["0.1"] * 3 + ["0"] + ["0.2"] * 3 + ["0"] * 3)

    def test_quick_chains(self):
        made = written("fun main() / start t = f() / start u = f() / wait u / wait t / return 0 / end / fun f() "
                       "/ start t = g() / print 1 / wait t / return 0 / end "
                       "/ fun g() / return 0 / end")
        run = Run(made, Mixture.of("tasks"))
        run.finish()
        child = ["0.{0}", "0.{0}", "0.{0}.1", "0.{0}.1", "0.{0}", "0.{0}", "0.{0}"]
        self.assertEqual(tasks_of(run), ["0", "0"] + [text.format(2) for text in child] + ["0"]
                         + [text.format(1) for text in child] + ["0"] * 3)


class TestWeavings(unittest.TestCase):
    def test_small(self):
        made = written("fun main() / start t = f() / wait t / return 0 / end / fun f() / return 0 / end")
        self.assertEqual(all_weavings(made, Mixture()), ([((0,) * 6, (("gives", 0),))], None))
        made = written("place a = 0 / fun main() / start t = f() / print a / wait t / return 0 / end / fun f() "
                       "/ set a = 1 / return 0 / end")
        found, most = all_weavings(made, Mixture())
        self.assertEqual(([picks for picks, _ in found], most), ([
            (0, 0, 0, 0, 0, 0, 0, 0), (0, 1, 0, 0, 0, 0, 0, 0), (0, 1, 1, 0, 0, 0, 0, 0), (0, 1, 1, 1, 0, 0, 0, 0)],
                    None))
        self.assertEqual([telling[0][1] for _, telling in found], [0, 1, 1, 1])

    def test_quick(self):
        run = Run(TWO, Mixture.of("tasks"))
        run.finish()
        self.assertEqual(all_weavings(TWO, Mixture.of("tasks")), ([((0,) * len(run), run.telling)], None))

    def test_against_all_runs(self):
        several = 0
        programs = [made for made in random_programs(84, 200, calm=True)
                    if any(row[0] == "start" for _, row in made.rows())]
        for made in programs + [ASKING]:
            run = Run(made, Mixture(), answers=(1, 5))
            run.finish()
            if len(run) > 40:
                continue
            wanted = {}
            self.branch(made, (), wanted)
            if len(wanted) > 60:
                continue
            found, most = all_weavings(made, Mixture(), answers=(1, 5), most=60)
            self.assertIsNone(most)
            self.assertEqual([picks for picks, _ in found], sorted(wanted))
            self.assertEqual(dict(found), wanted)
            several += len(found) > 3
        self.assertGreater(several, 4)

    def branch(self, made, picks, wanted):
        """All runs whose picks begin so: the next pick is each of the tasks that are ready."""
        run = Run(made, Mixture(), answers=(1, 5), weaving=picks)
        for _ in picks:
            run.step()
        if run.ended:
            wanted[picks] = run.telling
        elif len(wanted) <= 60:
            for pick in range(len(run.ready())):
                self.branch(made, picks + (pick,), wanted)

    def test_picks_as_weaving(self):
        traces = set()
        found, _ = all_weavings(TWO, Mixture(), most=60)
        for picks, telling in found:
            run = Run(TWO, Mixture(), weaving=picks)
            self.assertEqual((run.finish(), len(run)), (telling, len(picks)))
            traces.add(run.trace)
        self.assertEqual(len(traces), len(found))

    def test_most(self):
        made = written("place a = 0 / fun main() / start t = f() / print a / wait t / return 0 / end / fun f() "
                       "/ set a = 1 / return 0 / end")
        every, _ = all_weavings(made, Mixture())
        self.assertEqual(len(every), 4)
        self.assertEqual(all_weavings(made, Mixture(), most=4), (every, None))
        for most in (0, 1, 3):
            self.assertEqual(all_weavings(made, Mixture(), most=most), (every[:most], most))
        self.assertEqual(all_weavings(ASKING, Mixture(), most=0), ([], 0))
        self.assertEqual(len(all_weavings(ASKING, Mixture(), most=1)[0]), 1)

    def test_200_is_the_default(self):
        made = written("fun main() / start t = f() / start u = f() / start v = f() / wait t / wait u / wait v "
                       "/ return 0 / end / fun f() / print 1 / return 0 / end")
        found, most = all_weavings(made, Mixture())
        self.assertEqual((len(found), most), (200, 200))

    def test_answers(self):
        found, _ = all_weavings(ASKING, Mixture(), answers=[6])
        self.assertEqual([telling for _, telling in found], [tell(ASKING, Mixture(), answers=(6,))])


class TestTell(unittest.TestCase):
    def test_lines(self):
        made = written("place b = 'red / place a = 1 / fun main() / print 1 / print 'a / set a = 50 / return -5 "
                       "/ end / watch a 000010 111111 good 1 / watch b 000000 good 0")
        wanted = (("print", 1), ("print", "a"), ("gives", -5), ("place", "b", "red"), ("place", "a", 50),
                  ("watch", "a", "kept"), ("watch", "b", "kept"))
        self.assertEqual(tell(made, Mixture()), wanted)

    def test_blames(self):
        made = written("place a digit = 1 / fun main() / print 1 / set a = 'a / print 2 / return 0 / end")
        self.assertEqual(tell(made, Mixture()), (("print", 1), ("blames", "main.2"), ("place", "a", 1)))

    def test_prints_of_the_first_task_only(self):
        made = written("fun main() / start t = f() / start u = f() / wait t / if 1 / return 0 / end / wait u "
                       "/ return 0 / end / fun f() / print 1 / return 0 / end")
        self.assertEqual(tell(made, Mixture()), (("print", 1), ("print", 1), ("gives", 0)))

    def test_as_a_run_tells(self):
        for made in random_programs(85, 30):
            for mixture in list(all_mixtures())[::5]:
                run = Run(made, mixture, answers=[1], weaving=[1, 1])
                self.assertEqual(tell(made, mixture, answers=[1], weaving=[1, 1]), run.finish())

    def test_tell_classes(self):
        self.assertEqual(tell_classes(ASKING, answers=(6,)),
                         (tuple(number for number in range(32) if not number & 4),
                          tuple(number for number in range(32) if number & 4)))
        self.assertEqual(tell_classes(ASKING), tell_classes(ASKING, answers=[0]))
        self.assertEqual(tell_classes(written("fun main() / return 0 / end")), (tuple(range(32)),))

    def test_tell_classes_against_tellings(self):
        for made in random_programs(86, 25):
            answers, weaving = (5, "red"), (1, 0, 2, 1, 1, 1, 1, 1)
            found = tell_classes(made, answers=answers, weaving=weaving)
            tellings = [tell(made, mixture, answers=answers, weaving=weaving) for mixture in all_mixtures()]
            self.assertEqual(sorted(number for numbers in found for number in numbers), list(range(32)))
            self.assertEqual([numbers[0] for numbers in found], sorted(min(numbers) for numbers in found))
            for numbers in found:
                self.assertEqual(list(numbers),
                                 [number for number in range(32) if tellings[number] == tellings[numbers[0]]])


if __name__ == "__main__":
    unittest.main()
