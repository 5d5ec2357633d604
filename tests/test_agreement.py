"""What holds in every mixture [79], with [84] to [86] as far as they speak of tellings and records."""

import random
import unittest

from quickways.books import Books
from quickways.deciding import books_for
from quickways.errors import TooLarge
from quickways.loandeeds import first_untidy
from quickways.mixtures import PARTS, Mixture, all_mixtures
from quickways.openness import classes
from quickways.runs import Run, tell, tell_classes, weavings
from quickways.traces import alike_to, alike_traces, trace_of
from quickways.trees import row_at
from quickways.verdicts import faults, lets
from tests.helper import written
from tests.randoms import random_programs
from tests.told import UNSAFE

CLEAN = ("place a nat = 5 / place b = 1 / place c = 3 / fun main() num / let x = 1 / defer always print 7 "
         "/ call f(lent a, lent b) / start t = g(3) / print a / wait x = t / "
         "set c = x / if x < 5 / print x / else / return 0 / end / return x / end / fun f(lent p nat, lent q) "
         "/ narrow q to digit / set p = p + q / defer done set p = 2 / return 0 / end "
         "/ fun g(y) / defer fail print 0 / set y = y + b / return y / end "
         "/ watch c 012345 012345 012345 012345 012345 012345 good 2")


def rules_broken(made):
    return {rule for rule, _ in faults(made)}


def open_parts(broken):
    """The parts that are open if exactly these rules are eased."""
    return [part for part in PARTS if any(own == part and set(rules) <= broken for own, rules in UNSAFE)]


def chosen(rng):
    """Answers and a weaving."""
    answers = [rng.choice((0, 1, 2, 5, -3, 50, "a")) for _ in range(rng.randrange(4))]
    return answers, [rng.randrange(6) for _ in range(rng.randrange(40))]


PROGRAMS = random_programs(91, 120) + random_programs(92, 120, calm=True)


class TestAgreement(unittest.TestCase):
    def test_a_program_without_faults(self):
        made = written(CLEAN)
        self.assertEqual(rules_broken(made), set())
        for weaving in ((), (1, 1, 1, 1, 1, 1, 1, 1), (0, 3, 1, 4, 1, 5, 9, 2, 6, 5, 3, 5)):
            self.assertEqual(tell_classes(made, weaving=weaving), (tuple(range(32)),))
            traces = {}
            for mixture in all_mixtures():
                run = Run(made, mixture, weaving=weaving)
                self.assertEqual(run.finish()[0], ("print", 2))
                traces.setdefault(mixture["tasks"], set()).add(run.trace)
            self.assertEqual([len(found) for found in traces.values()], [1, 1])

    def test_mixtures_that_agree_tell_the_same(self):
        rng = random.Random(93)
        parted = 0
        for made in PROGRAMS:
            parts = open_parts(rules_broken(made))
            answers, weaving = chosen(rng)
            tellings, traces = {}, {}
            for mixture in all_mixtures():
                run = Run(made, mixture, answers=answers, weaving=weaving)
                ways = tuple(mixture[part] for part in parts)
                tellings.setdefault(ways, set()).add(run.finish())
                traces.setdefault(ways + (mixture["tasks"],), set()).add(run.trace)
            self.assertEqual({len(found) for found in tellings.values()} | {len(found) for found in traces.values()},
                             {1})
            parted += len({next(iter(found)) for found in tellings.values()}) > 1
        self.assertGreater(parted, 20)

    def test_the_classes_of_books_that_let_a_program(self):
        rng = random.Random(98)
        parted = several = 0
        for made in PROGRAMS[::2]:
            answers, weaving = chosen(rng)
            runs = [Run(made, mixture, answers=answers, weaving=weaving) for mixture in all_mixtures()]
            tellings = [run.finish() for run in runs]
            largest = books_for(made)
            for books in (largest, Books(*(rule for rule in largest if rng.random() < 0.8)), Books.none()):
                self.assertTrue(lets(books, made))
                for numbers in classes(books):
                    self.assertEqual(len({tellings[number] for number in numbers}), 1)
                    for tasks in ("plain", "quick"):
                        same = [number for number in numbers if runs[number].mixture["tasks"] == tasks]
                        self.assertLessEqual(len({runs[number].trace for number in same}), 1)
                parted += len(set(tellings)) > 1
                several += 1 < len(classes(books)) < 32
        self.assertGreater(min(parted, several), 50)


class TestEveryRun(unittest.TestCase):
    def runs(self, seed):
        rng = random.Random(seed)
        for made in PROGRAMS:
            answers, weaving = chosen(rng)
            for number in rng.sample(range(32), 5):
                run = Run(made, Mixture.numbered(number), answers=answers, weaving=weaving)
                run.finish()
                yield made, run

    def test_blamed_labels_have_failed(self):
        blamed = 0
        for _, run in self.runs(94):
            for line in run.telling:
                if line[0] == "blames":
                    blamed += 1
                    self.assertIn(line[1], [record[4] for record in run])
        self.assertGreater(blamed, 100)

    def test_loan_deeds_are_tidy_without_faults(self):
        tidy = 0
        for made, run in self.runs(95):
            if not rules_broken(made) & {"loans.alias", "loans.name", "loans.task"}:
                tidy += len(run.loan_deeds()) > 3
                self.assertIsNone(first_untidy([(place[1], place[3]) for place in made.places], run.loan_deeds()))
        self.assertGreater(tidy, 20)

    def test_loans_that_begin_end(self):
        for _, run in self.runs(96):
            deeds = run.loan_deeds()
            begun = [deed[1] for deed in deeds if deed[0] == "begin"]
            ended = [deed[1] for deed in deeds if deed[0] == "over"]
            self.assertEqual(sorted(begun), sorted(ended))
            self.assertEqual(len(set(begun)), len(begun))

    def test_children_and_loans_are_over_when_a_deed_is_done(self):
        children = loans = 0
        for made, run in self.runs(97):
            records = list(run)
            for at in self.last_deeds(records):
                task = records[at][0]
                self.assertNotIn(True, [record[0].startswith(f"{task}.") for record in records[at:]])
                children += any(record[0].startswith(f"{task}.") for record in records[:at])
                deeds = self.deeds_in_front(made, run, at)
                for deed in deeds:
                    # What began behind the loans of the first frame of the task itself.
                    inside = deed[1].startswith((f"{task}:", f"{task}.")) and not deed[1].startswith(f"{task}:0.")
                    if deed[0] == "begin" and inside:
                        self.assertIn(("over", deed[1]), deeds)
                        loans += 1
        self.assertGreater(min(children, loans), 10)

    def last_deeds(self, records):
        """The indexes of the deeds that tasks do behind everything else: they are those of their first frames."""
        found = []
        ended = set()
        for at in range(len(records) - 1, -1, -1):
            task, action = records[at][:2]
            if action == "deed" and task not in ended:
                found.append(at)
            elif action != "end" or task in [record[0] for record in records[at + 1:]]:
                ended.add(task)
        return found

    def deeds_in_front(self, made, run, steps):
        """The loan deeds in front of the step of a number."""
        other = Run(made, run.mixture, answers=run.answers, weaving=run.weaving)
        for _ in range(steps):
            other.step()
        return other.loan_deeds()

    def test_a_deed_behind_a_loan_of_a_child(self):
        text = ("place a = 0 / fun main() / call f(lent a) / return a / end / fun f(lent p) "
                "/ defer always set p = 9 / start t = g(lent p) / if 1 / return 0 / end / wait t "
                "/ return 0 / end / fun g(lent q) / set q = 5 / return 0 / end")
        for quick in ((), ("loans",), ("tasks",), ("loans", "tasks")):
            run = Run(written(text), Mixture.of("exits", *quick))
            self.assertEqual(run.finish(), (("gives", 9), ("place", "a", 9)))
            self.assertEqual(run.loan_deeds(), [
                ("begin", "0:1.p", "a"), ("begin", "0.1:0.q", "0:1.p"), ("write", "0.1:0.q", 5), ("over", "0.1:0.q"),
                ("write", "0:1.p", 9),
                ("over", "0:1.p"), ("read", "a")])

    def test_children_end_their_loans_before_they_are_waited_for(self):
        waited = 0
        for made, run in self.runs(99):
            steps, run = len(run), Run(made, run.mixture, answers=run.answers, weaving=run.weaving)
            for _ in range(steps):
                record = run.step()
                row = row_at(made.fun(record[2]), record[3]) if record[1] == "row" else ("",)
                if row[0] == "wait" or record[1] == "gather":
                    waited += 1
                    (child,) = [cell[5:] for cell in record[6] if cell.startswith(f"task {record[0]}.")]
                    deeds = run.loan_deeds()
                    for deed in deeds:
                        if deed[0] == "begin" and deed[1].startswith((f"{child}:", f"{child}.")):
                            self.assertIn(("over", deed[1]), deeds)
                    self.assertEqual([other for other in list(run) if other[0] == child][-1][1], "end")
        self.assertGreater(waited, 20)


class TestWeavings(unittest.TestCase):
    def test_without_faults_of_tasks_the_weavings_are_alike(self):
        several = 0
        for made in PROGRAMS + [written(CLEAN)]:
            starts = [row for _, row in made.rows() if row[0] == "start"]
            if not starts or rules_broken(made) & {"tasks.share", "tasks.ask"}:
                continue
            for mixture in (Mixture(), Mixture.of("casts", "loans", "exits")):
                found, whole = self.some(made, mixture)
                self.assertEqual(len({telling for _, telling in found}), 1)
                traces = []
                for picks, _ in found:
                    run = Run(made, mixture, answers=(1, 5), weaving=picks)
                    run.finish()
                    traces.append(trace_of(run.trace))
                self.assertTrue(all(alike_traces(traces[0], trace) for trace in traces))
                if whole:
                    several += len(traces) > 1
                    self.assertEqual(set(alike_to(traces[0], most=len(traces))), set(traces))
        self.assertGreater(several, 3)

    def some(self, made, mixture):
        found = []
        try:
            for one in weavings(made, mixture, answers=(1, 5), most=60):
                found.append(one)
        except TooLarge:
            return found, False
        return found, True


if __name__ == "__main__":
    unittest.main()
