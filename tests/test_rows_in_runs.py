"""What each row does in a run, what fails in it, and what its record tells [19 to 25]."""

import unittest

from quickways.mixtures import Mixture
from quickways.runs import Run, tell
from tests.helper import written

T = "task 0"


def run_of(text, *quick, answers=(), weaving=()):
    run = Run(written(text), Mixture.of(*quick), answers=answers, weaving=weaving)
    run.finish()
    return run


def in_main(rows, rest="", places="place a = 5 / place d digit = 7 / "):
    """The text of a program whose first function has these rows."""
    return f"{places}fun main() / {rows} / end{rest}"


def outcome(rows, rest="", answers=(), quick=()):
    """The prints of a run, its outcome, and the records in which something failed, without their cells."""
    run = run_of(in_main(rows, rest), *quick, answers=answers)
    prints = [line[1] for line in run.telling if line[0] == "print"]
    (end,) = [line for line in run.telling if line[0] in ("gives", "blames")]
    return prints, end, [record[:5] for record in run if record[4]]


class TestRows(unittest.TestCase):
    def fails(self, rows, label, rest="", number=None, action="row", fun="main", answers=(), quick=()):
        """A run of rows in which exactly one thing fails, with a label."""
        if number is None:
            number = int(label.strip("+-").split(".")[1])
        prints, end, raised = outcome(rows, rest, answers, quick)
        self.assertEqual(end, ("blames", label))
        self.assertEqual(raised, [("0", action, fun, number, label)])
        return prints

    def test_let_set_print_and_return(self):
        rows = "let x = a + 1 / set x = x + x / print x / set a = x - 1 / print a / print 'red / return 'b"
        self.assertEqual(outcome(rows), ([12, 11, "red"], ("gives", "b"), []))

    def test_operators(self):
        rows = " / ".join(f"print {expr}"
                          for expr in ("2 + -5", "2 - -5", "1 < 2", "2 < 2", "3 < 2", "2 == 2", "2 == 3", "'a == 'a",
                                       "'a == 'b", "1 == 'a",
                                                       "'a == 1", "(1 + 2) - (3 < 4)"))
        self.assertEqual(outcome(rows + " / return 0")[0], [-3, 7, 1, 0, 0, 1, 0, 1, 0, 0, 0, 2])

    def test_large_values(self):
        rows = "let x = 99 / loop 3 / loop 3 / set x = x + x / end / end / print 99 < x / return x"
        self.assertEqual(outcome(rows), ([1], ("gives", 99 * 512), []))

    def test_words_as_operands(self):
        for sign in ("+", "-", "<"):
            self.assertEqual(self.fails(f"print 1 / print 'a {sign} 1 / return 0", "main.2"), [1])
            self.fails(f"print 1 {sign} 'a / return 0", "main.1")
            self.fails(f"if (1 {sign} 'a) == 1 / end / return 0", "main.1")

    def test_the_left_operand_fails_first(self):
        run = run_of(in_main("set a = 'a / print (a + 1) + d / return 0"))
        self.assertEqual([record[5] for record in run][1], ("a",))
        run = run_of(in_main("set a = 'a / print (d + 1) + a / return 0"))
        self.assertEqual([record[5] for record in run][1], ("a", "d"))

    def test_values_that_do_not_fit(self):
        self.fails("let x nat = -1 / return 0", "main.1")
        self.fails("set d = 'red / return 0", "main.1")
        self.fails("let x bit = 1 / set x = 2 / return 0", "main.2")
        self.fails("ask d / return 0", "main.1", answers=(50,))
        self.fails("if 2 / end / return 0", "main.1")
        self.fails("if 'a / end / return 0", "main.1")
        self.fails("let x = 1 / if x - 2 / print 1 / else / print 0 / end / return 0", "main.2")

    def test_results_that_do_not_fit(self):
        run = run_of("fun main() nat / print 1 / return -1 / end")
        self.assertEqual(run.telling, (("print", 1), ("blames", "main.2")))

    def test_the_rest_of_the_frame_is_not_done(self):
        self.assertEqual(self.fails("print 1 / set d = 50 / print 2 / return 0", "main.2"), [1])
        self.assertEqual(run_of(in_main("set d = 50 / return 0")).telling,
                         (("blames", "main.1"), ("place", "a", 5), ("place", "d", 7)))

    def test_if_and_loop(self):
        rows = ("if 1 / print 1 / else / print 2 / end / if 0 / print 3 / else / print 4 / end / if a < 1 / print 5 "
                "/ end / if 5 == a / else / print 6 / end / return 0")
        self.assertEqual(outcome(rows)[0], [1, 4])
        rows = "let x = 0 / loop 3 / set x = x + 1 / loop 2 / print x / end / end / loop 2 / end / return x"
        self.assertEqual(outcome(rows), ([1, 1, 2, 2, 3, 3], ("gives", 3), []))

    def test_return_inside_rows(self):
        rows = "let x = 0 / loop 3 / set x = x + 1 / if x == 2 / return x / end / print x / end / return 9"
        self.assertEqual(outcome(rows), ([1], ("gives", 2), []))

    def test_ask(self):
        rows = "let x = 9 / ask x / print x / ask a / print a / ask x / print x / return 0"
        self.assertEqual(outcome(rows, answers=(1, "red"))[0], [1, "red", 0])
        self.assertEqual(outcome(rows, answers=[1, 2, 3, 4])[0], [1, 2, 3])

    def test_an_answer_is_used_up_also_if_setting_fails(self):
        rows = "call f() / return 0"
        rest = " / fun f() / defer always set a = 1 / ask d / return 0 / end"
        run = run_of(in_main("start t = f() / ask a / wait t / return 0", rest), answers=(50, 6), weaving=(0, 1, 1, 0))
        self.assertEqual([record[:5] for record in run][1:4],
                         [("0.1", "row", "f", 1, ""), ("0.1", "row", "f", 2, "f.2"), ("0", "row", "main", 2, "")])
        self.assertEqual([record[6] for record in run][2:4], [("answers", "task 0.1"), ("a", "answers", T)])
        self.assertEqual(outcome(rows, rest, answers=(50,))[1], ("blames", "f.2"))

    def test_calls(self):
        rest = " / fun f(x, y) / print x / return y / end / fun g() word / return 'red / end"
        self.assertEqual(outcome("let x = 0 / call x = f(1, a + 1) / print x / call f(x, x) / call a = g() / return a",
                                 rest),
                         ([1, 6, 6], ("gives", "red"), []))

    def test_arguments_that_fail(self):
        rest = " / fun f(x nat, y) / print 1 / return 0 / end"
        self.fails("call f(-1, 2) / return 0", "main.1", rest)
        self.fails("call f(1, 'a + 1) / return 0", "main.1", rest)
        self.fails("start t = f(-1, 2) / wait t / return 0", "main.1", rest)
        run = run_of(in_main("call f(-1, a) / return 0", rest))
        self.assertEqual([record[5] for record in run], [(), ()])
        run = run_of(in_main("call f(a, 'b + a) / return 0", rest))
        self.assertEqual([record[5] for record in run][0], ("a",))

    def test_results_of_calls(self):
        rest = " / fun f() / print 1 / return 50 / end"
        self.assertEqual(self.fails_at_end("print 0 / call d = f() / print 2 / return 0", rest), [0])
        self.assertEqual(self.fails_at_end("let x digit = 1 / call x = f() / return 0", rest), [])
        self.assertEqual(outcome("let x any = 1 / call x = f() / return x", rest)[1], ("gives", 50))
        self.fails("call g() / return 0", "g.1", " / fun g() / return 'a + 1 / end", fun="g")

    def fails_at_end(self, rows, rest):
        """What is printed in front of the 1 that the called function prints, whose result does not fit."""
        prints = self.fails(rows, "main.2", rest, number=0, action="end", fun="f")
        self.assertEqual(prints[-1], 1)
        return prints[:-1]

    def test_a_blamed_label_goes_through_call_rows(self):
        rest = " / fun f() / call g() / return 0 / end / fun g() / print 'a + 1 / return 0 / end"
        run = run_of(in_main("call f() / return 0", rest))
        self.assertEqual([record[:5] for record in run], [
            ("0", "row", "main", 1, ""), ("0", "row", "f", 1, ""), ("0", "row", "g", 1, "g.1"),
            ("0", "end", "g", 0, ""), ("0", "end", "f", 0, ""),
            ("0", "end", "main", 0, "")])
        self.assertEqual(run.telling[0], ("blames", "g.1"))


class TestTasks(unittest.TestCase):
    def told(self, text, *quick, answers=(), weaving=()):
        return tell(written(text), Mixture.of(*quick), answers=answers, weaving=weaving)

    def test_wait(self):
        text = ("place a = 0 / fun main() / let x = 0 / start t = f(3) / print 1 / wait x = t / print x / return 0 "
                "/ end / fun f(y) / print y / return y + 1 / end")
        for quick in ((), ("tasks",)):
            self.assertEqual(self.told(text, *quick),
                             (("print", 1), ("print", 3), ("print", 4), ("gives", 0), ("place", "a", 0)))
        self.assertEqual(self.told(text, weaving=(0, 1, 1, 1, 1, 0, 0)), self.told(text))

    def test_a_dropped_result(self):
        text = "fun main() / start t = f() / wait t / return 0 / end / fun f() / return 'red / end"
        self.assertEqual(self.told(text), (("gives", 0),))

    def test_a_result_that_does_not_fit(self):
        text = ("fun main() / let x nat = 1 / start t = f() / wait x = t / print 2 / return 0 / end / fun f() "
                "/ print 1 / return -5 / end")
        run = run_of(text)
        self.assertEqual(run.telling, (("print", 1), ("blames", "main.3")))
        self.assertEqual([record[:5] for record in run][-2:],
                         [("0", "row", "main", 3, "main.3"), ("0", "end", "main", 0, "")])

    def test_a_task_that_blames(self):
        text = ("fun main() / let x = 0 / start t = f() / wait x = t / print 2 / return 0 / end / fun f() / print 1 "
                "/ print 'a + 1 / return 0 / end")
        run = run_of(text)
        self.assertEqual(run.telling, (("print", 1), ("blames", "f.2")))
        self.assertEqual([record[:5] for record in run if record[4]], [("0.1", "row", "f", 2, "f.2")])
        self.assertEqual([record[:5] for record in run][-2:],
                         [("0", "row", "main", 3, ""), ("0", "end", "main", 0, "")])

    def test_start_rows_in_loop_rows(self):
        text = ("fun main() / let x = 0 / loop 3 / start t = f(x) / wait x = t / end / return x / end / fun f(y) "
                "/ print y / return y + 1 / end")
        run = run_of(text)
        self.assertEqual(run.telling, (("print", 0), ("print", 1), ("print", 2), ("gives", 3)))
        self.assertEqual([record[0] for record in run if record[2] == "f"], ["0.1"] * 3 + ["0.2"] * 3 + ["0.3"] * 3)

    def test_children_of_children(self):
        text = ("fun main() / start t = f() / start u = f() / wait t / wait u / return 0 / end / fun f() "
                "/ start t = g() / start u = g() / wait u / wait t / return 0 / end "
                "/ fun g() / return 0 / end")
        run = run_of(text)
        self.assertEqual(sorted({record[0] for record in run}), ["0", "0.1", "0.1.1", "0.1.2", "0.2", "0.2.1", "0.2.2"])
        waits = [record for record in run if record[2] == "f" and record[3] in (3, 4) and record[0] == "0.2"]
        self.assertEqual([record[6] for record in waits], [("task 0.2", "task 0.2.2"), ("task 0.2", "task 0.2.1")])

    def test_children_are_numbered_in_their_task(self):
        text = ("fun main() / call f() / start t = g() / wait t / return 0 / end / fun f() / start t = g() / wait t "
                "/ return 0 / end / fun g() / return 0 / end")
        self.assertEqual([record[0] for record in run_of(text) if record[2] == "g"], ["0.1"] * 2 + ["0.2"] * 2)

    def test_prints_come_when_the_child_is_waited_for(self):
        text = ("fun main() / start t = f(1) / start u = f(2) / print 0 / wait u / wait t / return 0 / end / fun f(y) "
                "/ print y / return 0 / end")
        for weaving in ((), (1,) * 40, (2, 1, 2, 0, 1, 1, 1, 2)):
            self.assertEqual(self.told(text, weaving=weaving), (("print", 0), ("print", 2), ("print", 1), ("gives", 0)))


class TestRecords(unittest.TestCase):
    def test_plain_rows(self):
        run = run_of("place a = 5 / fun main() / let x = a + 1 / set a = x / print a / if x < 7 / loop 2 "
                     "/ print 'red / end / end / return a / end")
        self.assertEqual(list(run), [
            ("0", "row", "main", 1, "", ("a",), (T,)), ("0", "row", "main", 2, "", (), ("a", T)),
            ("0", "row", "main", 3, "", ("a",), (T,)),
            ("0", "row", "main", 4, "", (), (T,)), ("0", "row", "main", 6, "", (), (T,)),
            ("0", "row", "main", 6, "", (), (T,)),
            ("0", "row", "main", 7, "", ("a",), (T,)), ("0", "end", "main", 0, "", (), (T,))])
        self.assertEqual(run.telling, (("print", 6), ("print", "red"), ("print", "red"), ("gives", 6),
                                       ("place", "a", 6)))

    def test_lent_parameters(self):
        text = ("place c = 1 / place b = 2 / fun main() / call b = f(lent c, b) / return b / end "
                "/ fun f(lent p, y) / ask p / narrow p to nat / return p + y / end")
        for quick in ((), ("loans",), ("casts", "loans", "exits", "tasks", "watch")):
            run = run_of(text, *quick, answers=(7,))
            self.assertEqual(list(run), [
                ("0", "row", "main", 1, "", ("b", "c"), ("c", T)), ("0", "row", "f", 1, "", (), ("answers", "c", T)),
                ("0", "row", "f", 2, "", (), (T,)),
                ("0", "row", "f", 3, "", ("c",), (T,)), ("0", "end", "f", 0, "", (), ("b", "c", T)),
                ("0", "row", "main", 2, "", ("b",), (T,)),
                ("0", "end", "main", 0, "", (), (T,))])
            self.assertEqual(run.telling, (("gives", 9), ("place", "c", 7), ("place", "b", 9)))

    def test_loans_on_loans_lead_to_the_place(self):
        text = ("place a = 1 / fun main() / call f(lent a) / return 0 / end / fun f(lent p) / call g(lent p) "
                "/ return p / end "
                "/ fun g(lent q) / set q = q + 1 / return 0 / end")
        for quick in ((), ("loans",)):
            run = run_of(text, *quick)
            self.assertEqual([(record[2], record[1]) + record[5:] for record in run], [
                ("main", "row", ("a",), ("a", T)), ("f", "row", ("a",), ("a", T)), ("g", "row", ("a",), ("a", T)),
                ("g", "row", (), (T,)),
                ("g", "end", (), ("a", T)), ("f", "row", ("a",), (T,)), ("f", "end", (), ("a", T)),
                ("main", "row", (), (T,)), ("main", "end", (), (T,))])

    def test_tasks(self):
        text = ("place a = 0 / fun main() / start t = g(lent a) / wait a = t / return a / end / fun g(lent p) "
                "/ set p = 3 / return p / end")
        self.assertEqual(list(run_of(text)), [
            ("0", "row", "main", 1, "", ("a",), ("a", T, "task 0.1")),
            ("0.1", "row", "g", 1, "", (), ("a", "task 0.1")),
            ("0.1", "row", "g", 2, "", ("a",), ("task 0.1",)), ("0.1", "end", "g", 0, "", (), ("a", "task 0.1")),
            ("0", "row", "main", 2, "", (), ("a", T, "task 0.1")), ("0", "row", "main", 3, "", ("a",), (T,)),
            ("0", "end", "main", 0, "", (), (T,))])

    def test_gathering_and_deeds(self):
        text = ("place a = 0 / fun main() / defer always set a = 4 / defer fail print a / start t = g() / if 1 "
                "/ return a / end / wait t / return 0 / end "
                "/ fun g() / print 1 / return 0 / end")
        run = run_of(text)
        self.assertEqual([record[5] for record in run][:5], [(), ("a",), (), (), ("a",)])
        self.assertEqual(list(run)[5:], [
            ("0.1", "row", "g", 1, "", (), ("task 0.1",)), ("0.1", "row", "g", 2, "", (), ("task 0.1",)),
            ("0.1", "end", "g", 0, "", (), ("task 0.1",)),
            ("0", "gather", "main", 1, "", (), (T, "task 0.1")), ("0", "deed", "main", 1, "", (), ("a", T)),
            ("0", "end", "main", 0, "", (), (T,))])
        self.assertEqual(run.telling, (("print", 1), ("gives", 0), ("place", "a", 4)))

    def test_what_was_read_before_something_fails(self):
        run = run_of("place a = 1 / place b = 'x / fun main() / set a = (a + b) + a / return 0 / end")
        self.assertEqual(list(run)[0], ("0", "row", "main", 1, "main.1", ("a", "b"), (T,)))

    def test_a_lent_parameter_that_the_view_does_not_let_pass(self):
        text = ("place a = 1 / fun main() / call f(lent a) / return 0 / end / fun f(lent p word) / print 0 "
                "/ set p = p / return 0 / end")
        run = run_of(text)
        self.assertEqual(list(run)[2], ("0", "row", "f", 2, "main.1+", ("a",), (T,)))
        text = ("place a nat = 1 / fun main() / call f(lent a) / return 0 / end / fun f(lent p) / set p = 'red "
                "/ return 0 / end")
        run = run_of(text)
        self.assertEqual(list(run)[1], ("0", "row", "f", 1, "main.1-", (), (T,)))
        self.assertEqual(run.telling, (("blames", "main.1-"), ("place", "a", 1)))

    def test_an_end_that_sets_a_place_or_fails(self):
        text = ("place a digit = 1 / place b = 2 / fun main() / call a = f(lent b) / return 0 / end / fun f(lent p) "
                "/ return 50 / end")
        self.assertEqual(list(run_of(text))[2], ("0", "end", "f", 0, "main.1", (), ("b", T)))
        text = text.replace("digit ", "")
        self.assertEqual(list(run_of(text))[2], ("0", "end", "f", 0, "", (), ("a", "b", T)))

    def test_a_start_row_that_bears_no_child(self):
        text = "place a = 1 / fun main() / start t = f(a) / wait t / return 0 / end / fun f(x word) / return 0 / end"
        self.assertEqual(list(run_of(text)),
                         [("0", "row", "main", 1, "main.1", ("a",), (T,)), ("0", "end", "main", 0, "", (), (T,))])

    def test_cells_are_in_order_and_stand_once(self):
        text = "place z = 1 / place y = 2 / fun main() / set z = (z + y) + z / ask y / return 0 / end"
        run = run_of(text)
        self.assertEqual(list(run)[0][5:], (("y", "z"), (T, "z")))
        self.assertEqual(list(run)[1][5:], ((), ("answers", T, "y")))


if __name__ == "__main__":
    unittest.main()
