"""The ways of the parts in a run [23, 27 to 29, 34 to 36, 42, 43, 61, 62, 76, 77]."""

import unittest

from quickways.cells import AddressLoans, CopyLoans
from quickways.loandeeds import play
from quickways.mixtures import Mixture, all_mixtures
from quickways.runs import Run, tell
from tests.helper import written
from tests.randoms import random_programs


def told(text, *quick, answers=(), weaving=()):
    return tell(written(text), Mixture.of(*quick), answers=answers, weaving=weaving)


def run_of(text, *quick, answers=(), weaving=()):
    run = Run(written(text), Mixture.of(*quick), answers=answers, weaving=weaving)
    run.finish()
    return run


def main_of(rows, rest=""):
    return f"place a = 5 / place d digit = 7 / fun main() / {rows} / end{rest}"


class TestExits(unittest.TestCase):
    def prints(self, rows, *quick, rest="", answers=()):
        """The prints of a run and its outcome."""
        telling = told(main_of(rows, rest), *quick, answers=answers)
        return [line[1] for line in telling if line[0] == "print"], telling[-3]

    def both(self, rows, rest="", answers=()):
        """The same in both ways of the exits part, which must not differ."""
        plain = self.prints(rows, rest=rest, answers=answers)
        self.assertEqual(plain, self.prints(rows, "exits", rest=rest, answers=answers))
        return plain

    def test_the_last_deed_goes_first(self):
        rows = "defer done print 1 / defer done print 2 / print 0 / defer done print 3 / return 9"
        self.assertEqual(self.both(rows), ([0, 3, 2, 1], ("gives", 9)))

    def test_guards(self):
        deeds = "defer done print 1 / defer fail print 2 / defer always print 3"
        self.assertEqual(self.both(f"{deeds} / return 0"), ([3, 1], ("gives", 0)))
        self.assertEqual(self.both(f"{deeds} / set d = 50 / return 0"), ([3, 2], ("blames", "main.4")))
        self.assertEqual(self.both(f"{deeds} / return 'a + 1"), ([3, 2], ("blames", "main.4")))

    def test_only_deeds_in_front_of_the_position(self):
        self.assertEqual(self.both("defer always print 1 / set d = 50 / defer always print 2 / return 0"),
                         ([1], ("blames", "main.2")))
        self.assertEqual(self.both("if 1 / return 0 / end / defer always print 2 / return 0"), ([], ("gives", 0)))
        self.assertEqual(self.both("defer always print 1 / call f() / defer always print 2 / return 0",
                                   " / fun f() / return 'a + 1 / end"),
                         ([1], ("blames", "f.1")))

    def test_deeds_that_fail(self):
        self.assertEqual(self.both("defer always print 1 / defer always set d = 50 / defer always print 2 / return 0"),
                         ([2, 1], ("blames", "main.2")))
        rows = ("defer fail print 1 / defer done print 2 / defer always set d = 50 / defer done print 3 "
                "/ defer fail print 4 / return 0")
        self.assertEqual(self.both(rows), ([3, 1], ("blames", "main.3")))

    def test_outcomes_that_blame_never_change(self):
        rows = "defer always set d = 'red / defer always set d = 50 / set d = 'a / return 0"
        self.assertEqual(self.both(rows), ([], ("blames", "main.3")))
        run = run_of(main_of(rows))
        self.assertEqual([record[:5] for record in run][2:], [
            ("0", "row", "main", 3, "main.3"), ("0", "deed", "main", 2, "main.2"), ("0", "deed", "main", 1, "main.1"),
            ("0", "end", "main", 0, "")])

    def test_records_of_deeds(self):
        run = run_of(main_of("defer done set a = 1 / defer fail print 1 / return a"))
        self.assertEqual(list(run)[2:], [
            ("0", "row", "main", 3, "", ("a",), ("task 0",)), ("0", "deed", "main", 1, "", (), ("a", "task 0")),
            ("0", "end", "main", 0, "", (), ("task 0",))])
        self.assertEqual(run.telling, (("gives", 5), ("place", "a", 1), ("place", "d", 7)))

    def test_caught_and_late_values(self):
        rows = "defer done print a / set a = 6 / return 0"
        self.assertEqual(self.prints(rows), ([5], ("gives", 0)))
        self.assertEqual(self.prints(rows, "exits"), ([6], ("gives", 0)))
        run = run_of(main_of(rows))
        self.assertEqual([record[5] for record in run], [("a",), (), (), (), ()])
        run = run_of(main_of(rows), "exits")
        self.assertEqual([record[5] for record in run], [(), (), (), ("a",), ()])

    def test_expressions_that_fail(self):
        rest = " / fun f(lent p) / narrow p to digit / defer done print p / set a = 1 / return 0 / end"
        rows = "set a = 50 / call f(lent a) / return 0"
        self.assertEqual(self.prints(rows, rest=rest), ([], ("blames", "f.1+")))
        run = run_of(main_of(rows, rest))
        self.assertEqual([record[:5] for record in run if record[4]], [("0", "row", "f", 2, "f.1+")])
        self.assertEqual(self.prints(rows, "exits", rest=rest), ([1], ("gives", 0)))
        rest = " / fun f(lent p) / narrow p to word / defer done print p / return 0 / end"
        run = run_of(main_of(rows, rest), "exits")
        self.assertEqual([record[:5] for record in run if record[4]], [("0", "deed", "f", 2, "f.1+")])
        self.assertEqual(run.telling[0], ("blames", "f.1+"))

    def test_what_is_deferred_again_and_what_is_not(self):
        self.assertEqual(self.prints("loop 2 / defer done print 1 / end / return 0"), ([1, 1], ("gives", 0)))
        self.assertEqual(self.prints("loop 2 / defer done print 1 / end / return 0", "exits"), ([1], ("gives", 0)))
        rows = "if 0 / defer done print 1 / else / defer done print 2 / end / return 0"
        self.assertEqual(self.prints(rows), ([2], ("gives", 0)))
        self.assertEqual(self.prints(rows, "exits"), ([2, 1], ("gives", 0)))

    def test_deeds_of_each_frame(self):
        rest = " / fun f(x) / defer always print x / print 0 / return 1 / end"
        self.assertEqual(self.both("defer done print 9 / call f(1) / call f(2) / return 0", rest),
                         ([0, 1, 0, 2, 9], ("gives", 0)))

    def test_deeds_come_behind_gathering(self):
        rest = " / fun f() / print 1 / return 'a + 1 / end"
        rows = "defer always print 2 / defer done print 3 / start t = f() / if 1 / return 0 / end / wait t / return 0"
        self.assertEqual(self.both(rows, rest), ([1, 2], ("blames", "f.2")))

    def test_gathering_keeps_an_outcome_that_blames(self):
        rest = " / fun f(x) / print x / return 'a + 1 / end"
        rows = "start t = f(1) / start u = f(2) / set d = 50 / wait t / wait u / return 0"
        self.assertEqual(self.both(rows, rest), ([1, 2], ("blames", "main.3")))
        run = run_of(main_of(rows, rest))
        self.assertEqual([record[1:5] for record in run if record[0] == "0"][-3:],
                         [("gather", "main", 1, ""), ("gather", "main", 2, ""), ("end", "main", 0, "")])

    def test_gathering_takes_the_first_blame(self):
        rest = " / fun f() / return 1 / end / fun g() / return 'a + 1 / end / fun h() / return 'a + 1 / end"
        rows = ("start t = f() / start u = g() / start v = h() / if 1 / return 0 / end / wait t / wait u / wait v "
                "/ return 0")
        self.assertEqual(self.both(rows, rest), ([], ("blames", "g.1")))

    def test_without_faults_both_ways_have_the_same_records(self):
        rows = ("let x = 1 / defer done print x / if x == 2 / return 0 / else / defer always set a = x / end / loop 1 "
                "/ defer fail print 3 / end / return a")
        plain, quick = run_of(main_of(rows)), run_of(main_of(rows), "exits")
        self.assertEqual(plain.trace, quick.trace)
        self.assertEqual(plain.telling, quick.telling)


class TestCasts(unittest.TestCase):
    TEXT = ("place a {} = {} / fun main() / call f(lent a) / return 0 / end / fun f(lent p {}) / narrow p to {} "
            "/ call g(lent p) / return p / end "
            "/ fun g(lent q {}) / {} / return 0 / end")

    def labels(self, kind, value, first, narrowed, second, row):
        text = self.TEXT.format(kind, value, first, narrowed, second, row)
        return told(text)[0][1], told(text, "casts")[0][1]

    def test_reading_blames_from_the_place_outwards(self):
        self.assertEqual(self.labels("any", "'b", "num", "nat", "bit", "print q"), ("main.1+", "main.1+"))
        self.assertEqual(self.labels("any", "-5", "num", "nat", "bit", "print q"), ("f.1+", "f.1+"))
        self.assertEqual(self.labels("any", "5", "num", "nat", "bit", "print q"), ("f.2+", "f.2+"))
        self.assertEqual(self.labels("any", "1", "num", "nat", "bit", "print q"), (1, 1))

    def test_writing_blames_from_the_outside(self):
        self.assertEqual(self.labels("bit", "1", "any", "any", "any", "set q = 5"), ("main.1-", "main.1-"))
        self.assertEqual(self.labels("any", "1", "any", "bit", "any", "set q = 5"), ("f.1-", "f.1-"))
        self.assertEqual(self.labels("bit", "1", "nat", "bit", "num", "set q = -5"), ("f.2-", "f.2-"))
        self.assertEqual(self.labels("nat", "1", "nat", "any", "bit", "set q = 5"), ("g.1", "g.1"))

    def test_kinds_at_odds_part_the_ways(self):
        self.assertEqual(self.labels("any", "-50", "small", "nat", "any", "print q"), ("main.1+", "f.1+"))

    def test_kinds_of_names_go_first(self):
        self.assertEqual(self.labels("bit", "1", "nat", "bit", "nat", "set q = -5"), ("g.1", "g.1"))


class TestLoans(unittest.TestCase):
    def test_loans_on_loans_in_both_ways(self):
        text = ("place a = 1 / fun main() / call f(lent a) / print a / return 0 / end / fun f(lent p) / set p = 2 "
                "/ call g(lent p) / print p / set p = p + 1 / return 0 / end "
                "/ fun g(lent q) / set q = q + q / return 0 / end")
        for quick in ((), ("loans",)):
            self.assertEqual(told(text, *quick), (("print", 4), ("print", 5), ("gives", 0), ("place", "a", 5)))

    def test_the_order_of_the_parameters(self):
        text = ("place a = 0 / fun main() / call f(lent a, lent a) / return 0 / end / fun f(lent p, lent q) "
                "/ set p = 1 / set q = 2 / print p / return 0 / end")
        self.assertEqual(told(text), (("print", 2), ("gives", 0), ("place", "a", 2)))
        self.assertEqual(told(text, "loans"), (("print", 1), ("gives", 0), ("place", "a", 2)))

    def test_names_beside_loans(self):
        text = ("place a = 0 / fun main() / call f(lent a) / return 0 / end / fun f(lent p) / set a = 1 / print p "
                "/ set p = 2 / print a / return 0 / end")
        self.assertEqual(told(text), (("print", 1), ("print", 2), ("gives", 0), ("place", "a", 2)))
        self.assertEqual(told(text, "loans"), (("print", 0), ("print", 1), ("gives", 0), ("place", "a", 2)))

    def test_loan_deeds(self):
        text = ("place c = 1 / place b = 2 / fun main() / call b = f(lent c, b) / return b / end "
                "/ fun f(lent p, y) / ask p / narrow p to nat / return p + y / end")
        for quick in ((), ("loans",)):
            self.assertEqual(run_of(text, *quick, answers=(7,)).loan_deeds(), [
                ("read", "b"), ("begin", "0:1.p", "c"), ("write", "0:1.p", 7), ("read", "0:1.p"), ("over", "0:1.p"),
                ("write", "b", 9), ("read", "b")])

    def test_keys(self):
        text = ("place a = 1 / fun main() / call f(lent a) / start t = f(lent a) / wait t / call f(lent a) "
                "/ return 0 / end "
                "/ fun f(lent p) / call g(lent p, lent p) / return 0 / end / fun g(lent q, lent r) / return 0 / end")
        self.assertEqual(run_of(text).loan_deeds(), [
            ("begin", "0:1.p", "a"), ("begin", "0:2.q", "0:1.p"), ("begin", "0:2.r", "0:1.p"), ("over", "0:2.q"),
            ("over", "0:2.r"), ("over", "0:1.p"),
            ("begin", "0.1:0.p", "a"), ("begin", "0.1:1.q", "0.1:0.p"), ("begin", "0.1:1.r", "0.1:0.p"),
            ("over", "0.1:1.q"), ("over", "0.1:1.r"), ("over", "0.1:0.p"),
            ("begin", "0:3.p", "a"), ("begin", "0:4.q", "0:3.p"), ("begin", "0:4.r", "0:3.p"), ("over", "0:4.q"),
            ("over", "0:4.r"), ("over", "0:3.p")])

    def test_views_that_do_not_let_a_value_pass(self):
        text = ("place a nat = 5 / fun main() / call f(lent a) / return 0 / end / fun f(lent p word) / set p = 'red "
                "/ return 0 / end")
        self.assertEqual(run_of(text).loan_deeds(), [("begin", "0:1.p", "a"), ("over", "0:1.p")])
        text = text.replace("set p = 'red", "print p")
        self.assertEqual(run_of(text).loan_deeds(), [("begin", "0:1.p", "a"), ("read", "0:1.p"), ("over", "0:1.p")])
        text = "place a nat = 5 / fun main() / set a = a - 9 / return 0 / end"
        self.assertEqual(run_of(text).loan_deeds(), [("read", "a")])

    def test_deeds_read_and_write(self):
        text = ("place a = 5 / fun main() / call f(lent a) / return 0 / end / fun f(lent p) / defer done set a = p "
                "/ return 0 / end")
        wanted = [("begin", "0:1.p", "a"), ("read", "0:1.p"), ("write", "a", 5), ("over", "0:1.p")]
        self.assertEqual(run_of(text).loan_deeds(), wanted)
        self.assertEqual(run_of(text, "exits").loan_deeds(), wanted)

    def test_the_deeds_lead_to_the_values(self):
        for made in random_programs(71, 60) + random_programs(72, 60, calm=True):
            places = [(place[1], place[3]) for place in made.places]
            for quick, kind in (((), AddressLoans), (("loans",), CopyLoans)):
                run = Run(made, Mixture.of(*quick), answers=(1, 5))
                run.finish()
                loans = kind(places)
                play(loans, run.loan_deeds())
                self.assertEqual([line[2] for line in run.telling if line[0] == "place"],
                                 [loans.value_at(name) for name in made.place_names()])


class TestWatch(unittest.TestCase):
    def reports(self, text, *quick):
        return [line[1:] for line in told(text, *quick) if line[0] == "watch"]

    def test_letters(self):
        even = "watch a 111111 000000 good 0"
        for rows, plain, quick in (("print a", "broken", "broken"), ("set a = 5", "kept", "kept"),
                                   ("set a = 0", "kept", "broken"),
                                   ("set a = 0 / set a = 5 / set a = 6", "kept", "kept"),
                                   ("set a = 1 / set a = 5 / set a = 0", "kept", "broken"),
                                   ("ask a / ask a", "broken", "broken"), ("set a = 'a + 1", "broken", "broken")):
            text = (f"place a = 0 / place b = 0 / fun main() / {rows} / return 0 / end / {even} "
                    "/ watch b 111111 000000 good 0")
            self.assertEqual(self.reports(text), [("a", plain), ("b", "broken")])
            self.assertEqual(self.reports(text, "watch"), [("a", quick), ("b", "broken")])

    def test_values_that_are_set_through_loans(self):
        # With addresses three letters are read, with copies only the first one and that of the end.
        text = ("place a = 0 / fun main() / call f(lent a) / return 0 / end / fun f(lent p) / set p = 5 "
                "/ set p = 'red / return 0 / end "
                "/ watch a 111111 222222 333333 333333 good {}")
        self.assertEqual(self.reports(text.format(3)), [("a", "kept")])
        self.assertEqual(self.reports(text.format(2), "loans"), [("a", "kept")])

    def test_an_end_with_copies_always_sets_the_place(self):
        text = ("place a = 0 / fun main() / call f(lent a) / return 0 / end / fun f(lent p) / return 0 / end "
                "/ watch a 111111 222222 222222 good {}")
        self.assertEqual(self.reports(text.format(1)), [("a", "kept")])
        self.assertEqual(self.reports(text.format(2), "loans"), [("a", "kept")])
        self.assertEqual(self.reports(text.format(1), "loans", "watch"), [("a", "kept")])

    def test_loans_on_loans_set_no_place(self):
        text = ("place a = 0 / fun main() / call f(lent a) / return 0 / end / fun f(lent p) / call g(lent p) "
                "/ return 0 / end / fun g(lent q) / set q = 5 / return 0 / end "
                "/ watch a 111111 222222 333333 333333 good 2")
        self.assertEqual(self.reports(text), [("a", "kept")])
        self.assertEqual(self.reports(text, "loans"), [("a", "kept")])


class TestRooms(unittest.TestCase):
    def rooms(self, text, *quick):
        """The rooms at the beginning and behind each step."""
        run = Run(written(text), Mixture.of(*quick))
        found = [run.rooms()]
        while not run.ended:
            run.step()
            found.append(run.rooms())
        return found

    def test_casts(self):
        text = ("place a = 1 / fun main() / call f(lent a) / return 0 / end / fun f(lent p) / narrow p to nat "
                "/ narrow p to nat / call g(lent p) / return 0 / end "
                "/ fun g(lent q bit) / return 0 / end")
        self.assertEqual([rooms[0] for rooms in self.rooms(text)], [0, 0, 1, 2, 3, 3, 3, 3, 3, 3, 3])
        self.assertEqual([rooms[0] for rooms in self.rooms(text, "casts")], [0, 0, 2, 2, 3, 3, 3, 3, 3, 3, 3])

    def test_loans(self):
        text = ("place a = 1 / fun main() / call f(lent a) / start t = f(lent a) / wait t / return 0 / end "
                "/ fun f(lent p) / call g(lent p, lent p) / return 0 / end "
                "/ fun g(lent q, lent r) / return 0 / end")
        self.assertEqual({rooms[1] for rooms in self.rooms(text)}, {0})
        self.assertEqual([rooms[1] for rooms in self.rooms(text, "loans")][:8], [0, 1, 3, 3, 3, 3, 3, 3])
        self.assertEqual(self.rooms(text, "loans")[-1], (0, 3, 0))

    def test_deeds(self):
        text = ("fun main() / defer done print 1 / call f() / call f() / loop 2 / defer fail print 2 / end "
                "/ return 0 / end / fun f() / defer done print 1 / defer done print 2 "
                "/ return 0 / end")
        self.assertEqual([rooms[2] for rooms in self.rooms(text)], [0, 1, 1, 2] + [3] * 17)
        self.assertEqual({rooms for rooms in self.rooms(text, "exits")}, {(0, 0, 0)})

    def test_the_deeds_leave_the_stack_behind_gathering(self):
        rest = " / fun f() / defer done print 2 / return 0 / end"
        self.assertEqual(self.rooms("fun main() / defer done print 1 / start t = f() / if 1 / return 0 / end "
                                    "/ wait t / return 0 / end" + rest)[-1], (0, 0, 2))
        self.assertEqual(self.rooms("fun main() / start t = f() / wait t / defer done print 1 / return 0 / end"
                                    + rest)[-1], (0, 0, 1))

    def test_bounds(self):
        for made in random_programs(73, 60):
            for mixture in all_mixtures():
                run = Run(made, mixture, answers=(5, "red"))
                run.finish()
                casts, loans, deeds = run.rooms()
                if mixture["casts"] == "quick":
                    self.assertLessEqual(casts, 11)
                if mixture["loans"] == "plain":
                    self.assertEqual(loans, 0)
                if mixture["exits"] == "quick":
                    self.assertEqual(deeds, 0)


if __name__ == "__main__":
    unittest.main()
