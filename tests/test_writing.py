"""The texts of programs and rows, and listings [69, 71, 74]."""

import unittest

from quickways.listing import listing
from quickways.reading import read_program
from quickways.writing import write_program, write_row
from tests.helper import PRINT, RETURN, add, call, fun, lent, lent_param, lit, main, name, place, program, start
from tests.helper import wait, watch
from tests.helper import worth, worth_param, written
from tests.randoms import random_programs

EVERY = """place a nat = 5
place b = 'red
place c any = -50
fun main()
  let x num = 1
  let y = x
  set x = (x + 1) - (y < -2)
  call x = f(x + 1, lent a, 'b)
  call f(1, lent b, 2)
  call g()
  start t = g()
  wait x = t
  if x == y
    start u = g()
    wait u
  else
    loop 3
      print 'red
    end
    if 1
    end
  end
  return x
end
fun f(x nat, lent p, y) digit
  defer done print x
  defer fail set p = 'red
  defer always set x = a
  narrow p to nat
  loop 1
  end
  if 0
  else
    ask x
  end
  return 0
end
fun g() any
  return 0
end
watch a 100000 111111 good 0
watch b 000000 good"""


def every():
    """The program of this text, as trees."""
    first = fun(
        "main", (),
        ("let", "x", "num", lit(1)), ("let", "y", None, name("x")),
        ("set", "x", ("sub", add(name("x"), lit(1)), ("less", name("y"), lit(-2)))),
        ("call", "x", "f", (worth(add(name("x"), lit(1))), lent("a"), worth(lit("b")))),
        call("f", worth(lit(1)), lent("b"), worth(lit(2))), call("g"),
        start("t", "g"), ("wait", "x", "t"),
        ("if", ("same", name("x"), name("y")), (start("u", "g"), wait("u")),
         (("loop", 3, (("print", lit("red")),)), ("if", lit(1), (), ()))),
        ("return", name("x")))
    second = fun(
        "f", (worth_param("x", "nat"), lent_param("p"), worth_param("y")),
        ("defer", "done", ("print", name("x"))), ("defer", "fail", ("set", "p", lit("red"))),
        ("defer", "always", ("set", "x", name("a"))),
        ("narrow", "p", "nat"), ("loop", 1, ()), ("if", lit(0), (), (("ask", "x"),)), RETURN, result="digit")
    wishes = (("wish", ((1, 0, 0, 0, 0, 0), (1,) * 6), (0,)), ("wish", ((0,) * 6,), ()))
    return program(first, second, fun("g", (), RETURN, result="any"),
                   places=(place("a", 5, "nat"), place("b", "red"), place("c", -50, "any")),
                   watches=(watch("a", wishes[0]), watch("b", wishes[1])))


class TestWriteProgram(unittest.TestCase):
    def test_every_line(self):
        self.assertEqual(write_program(every()), EVERY)

    def test_small_ones(self):
        self.assertEqual(write_program(program(main())), "fun main()\n  return 0\nend")
        made = program(main(call("f", lent("a"))), fun("f", (lent_param("p", "nat"),), RETURN, result="bit"),
                       places=[place("a", -1)])
        self.assertEqual(write_program(made).split("\n"), [
            "place a = -1", "fun main()", "  call f(lent a)", "  return 0", "end", "fun f(lent p nat) bit",
            "  return 0", "end"])

    def test_states_and_good_states(self):
        wish = ("wish", ((5, 4, 3, 2, 1, 0),) + tuple((at,) * 6 for at in range(1, 6)), (0, 2, 5))
        made = program(main(), places=[place("a")], watches=[watch("a", wish)])
        self.assertEqual(write_program(made).split("\n")[-1],
                         "watch a 543210 111111 222222 333333 444444 555555 good 0 2 5")

    def test_lines(self):
        for made in random_programs(61, 60):
            for line in write_program(made).split("\n"):
                self.assertTrue(line and not line.endswith(" "))


class TestWriteRow(unittest.TestCase):
    def test_every_form(self):
        rows = {
            "let x num = 1": ("let", "x", "num", lit(1)), "let x = y": ("let", "x", None, name("y")),
            "set x = 1 + 1": ("set", "x", add(lit(1), lit(1))),
            "print 'red": ("print", lit("red")), "ask x": ("ask", "x"),
            "call x = f(lent a, 1)": ("call", "x", "f", (lent("a"), worth(lit(1)))),
            "call f()": call("f"), "start t = f((x + 1) - 1, lent b)": start("t", "f",
                    worth(("sub", add(name("x"), lit(1)), lit(1))), lent("b")),
            "wait x = t": ("wait", "x", "t"), "wait t": wait("t"),
            "defer done print x": ("defer", "done", ("print", name("x"))),
            "defer always set y = -5": ("defer", "always", ("set", "y", lit(-5))),
            "narrow p to word": ("narrow", "p", "word"),
            "return x < 1": ("return", ("less", name("x"), lit(1)))}
        for text, row in rows.items():
            self.assertEqual(write_row(row), [text])

    def test_rows_with_rows_inside(self):
        self.assertEqual(write_row(("loop", 3, ())), ["loop 3", "end"])
        self.assertEqual(write_row(("loop", 2, (PRINT, ("loop", 1, (PRINT,))))),
                         ["loop 2", "  print 1", "  loop 1", "    print 1", "  end", "end"])
        self.assertEqual(write_row(("if", lit(1), (), ())), ["if 1", "end"])
        self.assertEqual(write_row(("if", lit(1), (PRINT,), ())), ["if 1", "  print 1", "end"])
        self.assertEqual(write_row(("if", lit(1), (), (PRINT,))), ["if 1", "else", "  print 1", "end"])
        inner = ("if", lit(0), (PRINT,), (RETURN,))
        self.assertEqual(write_row(("if", lit(1), (inner,), (inner,))), [
            "if 1", "  if 0", "    print 1", "  else", "    return 0", "  end", "else", "  if 0", "    print 1",
            "  else", "    return 0", "  end", "end"])

    def test_lists_are_new(self):
        write_row(PRINT).clear()
        self.assertEqual(write_row(PRINT), ["print 1"])


class TestListing(unittest.TestCase):
    MADE = written("place a = 0 / fun main() / if a / print a / else / loop 2 / ask a / end / end / return a / end "
                   "/ watch a 000000 good 0")

    def test_width_0(self):
        self.assertEqual(list(listing(self.MADE, width=0)), [
            "place a = 0", "fun main()", "  if a  1", "    print a  2", "  else", "    loop 2  3", "      ask a  4",
            "    end", "  end", "  return a  5",
            "end", "watch a 000000 good 0"])

    def test_rows_that_are_longer_and_shorter(self):
        self.assertEqual(list(listing(self.MADE, width=8))[2:6],
                         ["  if a    1", "    print a  2", "  else", "    loop 2  3"])
        self.assertEqual(list(listing(self.MADE, width=11))[2:4], ["  if a       1", "    print a  2"])

    def test_60_is_the_default(self):
        self.assertEqual(list(listing(self.MADE)), list(listing(self.MADE, width=60)))
        self.assertEqual(list(listing(self.MADE))[2], "  if a" + " " * 54 + "  1")
        for line, text in zip(listing(self.MADE, width=200), write_program(self.MADE).split("\n")):
            starts = text.startswith("  ") and text.strip() not in ("end", "else")
            self.assertEqual((line.startswith(text), len(line)), (True, 203 if starts else len(text)))

    def test_numbers_of_two_digits_and_several_functions(self):
        made = program(main(*[PRINT] * 11, call("f")), fun("f", (), RETURN))
        lines = list(listing(made, width=10))
        self.assertEqual(lines[9:14], ["  print 1   9", "  print 1  10", "  print 1  11", "  call f() 12",
                                       "  return 0 13"])
        self.assertEqual(lines[14:], ["end", "fun f()", "  return 0  1", "end"])

    def test_numbers_of_three_digits(self):
        class Wide:
            """A program with more rows than a Program can have."""

            places = watches = ()
            funs = (("fun", "main", (), None, (PRINT,) * 101),)

        self.assertEqual(list(listing(Wide(), width=9))[99:102], ["  print 1 99", "  print 1100", "  print 1101"])

    def test_every_row_and_texts(self):
        for made in random_programs(62, 40):
            numbers = [line[-3:] for line in listing(made, width=200) if len(line) == 203]
            self.assertEqual(numbers, [f"{label.split('.')[1]:>3}" for label, _ in made.rows()])
            texts = [line[:200].rstrip(" ") for line in listing(made, width=200)]
            self.assertEqual(read_program("\n".join(texts)), made)


if __name__ == "__main__":
    unittest.main()
