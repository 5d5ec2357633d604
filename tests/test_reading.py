"""Reading programs and rows [72, 73], and every form of line [69, 71]."""

import random
import unittest

from quickways.errors import BadProgram, BadText
from quickways.programs import Program
from quickways.reading import Reader, read_program, read_row
from quickways.writing import write_program, write_row
from tests.helper import PRINT, RETURN, add, lit, name
from tests.randoms import random_programs
from tests.test_writing import EVERY, every

PLACE = "place a = 1"
FUN = "fun f()"
WATCH = "watch a 000000 good"


def refused(function, *args):
    """What a text is refused for, None if it is read."""
    try:
        function(*args)
    except BadText as why:
        return why.line
    except BadProgram as why:
        return (why.reason, why.where)
    return None


def reader_of(*lines):
    reader = Reader()
    for line in lines:
        reader.take(line)
    return reader


def takes(lines, text):
    """Whether a line fits behind others; if it does not, the error has its number and nothing has changed."""
    reader = reader_of(*lines)
    before = (list(reader), len(reader), reader.depth)
    line = refused(reader.take, text)
    if line is not None:
        assert line == len(lines) + 1 and before == (list(reader), len(reader), reader.depth), (lines, text, line)
    else:
        assert list(reader) == list(lines) + [text] and len(reader) == len(lines) + 1
    return line is None


class TestForms(unittest.TestCase):
    def check(self, front, fine, wrong):
        for text in fine:
            self.assertTrue(takes(front, text), text)
        for text in wrong:
            self.assertFalse(takes(front, text), text)

    def test_places(self):
        self.check([], ("place a = 5", "place a nat = 5", "place b1 word = 5", "place place = 'red", "place a = -99"),
                   ("place a", "place a =", "place a = ", "place a nut = 5", "place a = 100", "place A = 5",
                    "place num = 5", "place a = x", "place a nat 5",
                    "place a nat num = 5", "place a  = 5", "place a = 5 ", " place a = 5", "place a=5", "Place a = 5",
                    "place", "place ", "place = 5",
                    "place a = 05", "place a = 1 + 1", "place toolong = 1"))

    def test_functions(self):
        self.check([], ("fun f()", "fun main()", "fun f() nat", "fun f(x)", "fun f(x nat, lent p, y) digit",
                        "fun f(lent p any)", "fun f(a, a, b, c, d)"),
                   ("fun f", "fun f(", "fun f)", "fun ()", "fun f(x,y)", "fun f(x , y)", "fun f(x, )", "fun f( x)",
                    "fun f(x )", "fun f(lent)", "fun f(lent x y)",
                    "fun f(x nut)", "fun f(nat)", "fun f() ", "fun f()nat", "fun f() nut", "fun f()  nat", "fun f (x)",
                    "fun  f()", "fun f(x;y)", "fun F()",
                    "fun f(lent  p)", "fun lent()", "fun f(x))", "fun f((x)", "fun f() nat nat", "fun f(, x)",
                    "fun f(worth x)"))

    def test_watches(self):
        self.check([], ("watch a 000000 good", "watch a 000000 good 0", "watch a good", "watch good 000000 good 0",
                        "watch a 012345 555555 good 5 0 0",
                        "watch a " + "000000 " * 40 + "good 0 1 2"),
                   ("watch a", "watch a 000000", "watch a 00000 good", "watch a 0000000 good", "watch a 000006 good",
                    "watch a 00000x good", "watch a 000000 good 6",
                    "watch a 000000 good 00", "watch a 000000 good 0 ", "watch a  good", "watch a 000000 bad 0",
                    "watch A 000000 good", "watch good", "watch a good x",
                    "watch any 000000 good", "watch a 000000 good 0 good", "watch a 000000 000000good", "watch",
                    "watch ", "watch a 0000 00 good", "watch a 000000 good -1"))

    def test_let_set_print_ask_return_narrow(self):
        self.check([FUN], ("  let x = 1", "  let x num = 1 + y", "  set x = 'red", "  set x = (1 + y) - (2 < z)",
                           "  print x == y", "  ask x", "  return 0",
                           "  narrow p to nat", "  let let = set", "  set to = to", "  print print",
                           "  narrow to to any"),
                   ("  let x", "  let x =", "  let x = ", "  let x nut = 1", "  let num = 1", "  let = 1",
                    "  let x = 1 ", "  let x  = 1", "  set x", "  set x num = 1",
                    "  set 1 = 1", "  set x = 1 = 1", "  set x == 1", "  print", "  print ", "  print 1 + 2 + 3",
                    "  print (1)", "  ask", "  ask 1", "  ask x y", "  ask nat",
                    "  return", "  return 1 2", "  narrow p", "  narrow p to", "  narrow p to x",
                    "  narrow nat to nat", "  narrow p nat", "  Print 1", "  print  1",
                    "  print ((1 + 2) + 3) + 4", "  print 100", "  nothing", "  "))

    def test_call_start_wait(self):
        self.check([FUN], ("  call f()", "  call x = f()", "  call f(1, lent a, x + (1 - y))", "  call x = f('red)",
                           "  start t = g()", "  start t = g(lent a, -5)",
                           "  wait t", "  wait x = t", "  call call(lent call)", "  call x = x(x == y)"),
                   ("  call f", "  call f(", "  call f)", "  call f() ", "  call ()", "  call x = ", "  call = f()",
                    "  call x = f", "  call x f()", "  call f(lent)", "  call f(lent 1)",
                    "  call f(lent a + 1)", "  call f(1,2)", "  call f(1 , 2)", "  call f(1, )", "  call f( 1)",
                    "  call num()", "  call num = f()", "  start g()", "  start t",
                    "  start t = g", "  start = g()", "  start num = g()", "  start x = t = g()", "  wait",
                    "  wait x =", "  wait x t", "  wait 1", "  wait num", "  wait x = 1",
                    "  call f()()", "  call f(1) + 1", "  call f(1))", "  call x = f((1 + 2))", "  call f(worth x)",
                    "  call f(, 1)"))

    def test_defer(self):
        self.check([FUN], ("  defer done print x", "  defer fail print -5", "  defer always set x = 'red",
                           "  defer done set x = y"),
                   ("  defer", "  defer done", "  defer done print", "  defer done print x + 1",
                    "  defer never print x", "  defer print x", "  defer done set x", "  defer done set x = y + 1",
                    "  defer done ask x", "  defer done return 0", "  defer done let x = 1", "  defer done print x ",
                    "  defer  done print x", "  defer done set num = 1",
                    "  defer done set 1 = x", "  defer done print num", "  defer done set x = y = z",
                    "  defer done defer done print x"))

    def test_if_and_loop(self):
        self.check([FUN], ("  if 1", "  if x == (y + 1)", "  if if", "  loop 1", "  loop 2", "  loop 3"),
                   ("  if", "  if ", "  if 1 ", "  if (1)", "  loop", "  loop 0", "  loop 4", "  loop 10", "  loop x",
                    "  loop -1", "  loop 1 ", "  loop 01", "  loop  1"))

    def test_else_and_end(self):
        self.check([FUN, "  if 1"], ("  else", "  end"),
                   ("else", "end", "    else", "    end", "  else ", "  end ", "  Else", "  else if", "  end if"))


class TestPlaces(unittest.TestCase):
    TOPS = {"place": PLACE, "fun": FUN, "watch": WATCH}

    def fitting(self, *front):
        return [word for word, text in self.TOPS.items() if takes(front, text)]

    def test_nothing_is_open(self):
        self.assertEqual(self.fitting(), ["place", "fun", "watch"])
        self.assertEqual(self.fitting(PLACE), ["place", "fun", "watch"])
        self.assertEqual(self.fitting(PLACE, FUN, "end"), ["fun", "watch"])
        self.assertEqual(self.fitting(FUN, "end"), ["fun", "watch"])
        self.assertEqual(self.fitting(WATCH), ["watch"])
        self.assertEqual(self.fitting(PLACE, FUN, "end", WATCH), ["watch"])
        for text in ("print 1", "  print 1", "end", "else", "", "  end"):
            self.assertFalse(takes([], text))
            self.assertFalse(takes([FUN, "end"], text))

    def test_something_is_open(self):
        self.assertEqual(self.fitting(FUN), [])
        self.assertEqual(self.fitting(FUN, "  print 1"), [])
        self.assertEqual([text for text in ("print 1", " print 1", "  print 1", "   print 1", "    print 1")
                          if takes([FUN], text)], ["  print 1"])
        self.assertEqual([text for text in ("end", " end", "  end", "else", "  else") if takes([FUN], text)], ["end"])

    def test_depths(self):
        front = [FUN]
        for depth in (1, 2, 3):
            spaces = "  " * depth
            self.assertTrue(takes(front, spaces + "print 1"))
            self.assertTrue(takes(front, spaces + "ask x"))
            self.assertFalse(takes(front, spaces + "  print 1"))
            self.assertFalse(takes(front, spaces[2:] + "print 1"))
            self.assertFalse(takes(front, spaces + "end"))
            self.assertTrue(takes(front, spaces[2:] + "end"))
            front.append(spaces + "loop 1")
        self.assertEqual(reader_of(*front).depth, 4)
        self.assertFalse(takes(front, " " * 8 + "print 1"))
        self.assertFalse(takes(front, " " * 6 + "else"))
        self.assertTrue(takes(front, " " * 6 + "end"))

    def test_else(self):
        front = [FUN, "  if 1"]
        self.assertTrue(takes(front, "  else"))
        self.assertTrue(takes(front + ["    print 1"], "  else"))
        self.assertFalse(takes(front + ["  else"], "  else"))
        self.assertFalse(takes(front + ["  else"], "  end"))
        self.assertFalse(takes(front + ["  else", "    print 1"], "  else"))
        self.assertTrue(takes(front + ["  else", "    print 1"], "  end"))
        self.assertFalse(takes(front + ["    loop 1"], "    else"))
        self.assertFalse(takes(front + ["    loop 1"], "  else"))
        self.assertTrue(takes(front + ["    loop 1", "    end"], "  else"))
        self.assertFalse(takes([FUN, "  loop 1"], "  else"))
        self.assertFalse(takes([FUN], "else"))

    def test_else_behind_an_inner_if_row(self):
        front = [FUN, "  if 1", "    if 0", "    end"]
        self.assertTrue(takes(front, "  else"))
        self.assertFalse(takes(front, "    else"))
        self.assertFalse(takes(front + ["  else", "    if 1", "    end"], "  else"))
        self.assertTrue(takes(front + ["  else", "    if 1"], "    else"))

    def test_else_with_four_things_open(self):
        front = [FUN, "  if 1", "    if 1", "      if 1"]
        self.assertFalse(takes(front, "      else"))
        self.assertTrue(takes(front, "      end"))
        self.assertTrue(takes(front[:3], "    else"))

    def test_other_conditions_do_not_matter(self):
        lines = ["fun f(x, x)", "  loop 2", "    let x = 1", "    return 0", "    print nobody", "    wait t", "  end",
                 "end", "fun f()", "end"]
        self.assertEqual(list(reader_of(*lines)), lines)


class TestReader(unittest.TestCase):
    def test_lines_and_depth(self):
        reader = Reader()
        self.assertEqual((len(reader), list(reader), reader.depth), (0, [], 0))
        depths = []
        lines = EVERY.split("\n")
        for at, line in enumerate(lines):
            self.assertIsNone(reader.take(line))
            self.assertEqual((len(reader), list(reader)), (at + 1, lines[:at + 1]))
            depths.append(reader.depth)
        spaces = [(len(line) - len(line.lstrip(" "))) // 2 for line in lines]
        opening = [line.lstrip(" ").split(" ")[0] in ("fun", "if", "loop", "else") for line in lines]
        self.assertEqual(depths, [indent + opens for indent, opens in zip(spaces, opening)])

    def test_the_same_after_an_error(self):
        reader = reader_of(PLACE, "fun main()", "  if a")
        for text in ("", "end", "    nothing", "  print 1", "    if", "else"):
            self.assertEqual(refused(reader.take, text), 4)
        for text in ("    print 1", "  else", "    print 2", "  end", "  return 0", "end"):
            self.assertIsNone(reader.take(text))
        self.assertEqual(refused(reader.take, "  return 0"), 10)
        self.assertEqual(write_program(reader.finish()).split("\n"), list(reader))

    def test_finish(self):
        reader = reader_of("fun main()", "  loop 2")
        self.assertEqual(refused(reader.finish), 3)
        reader.take("  end")
        self.assertEqual(refused(reader.finish), 4)
        reader.take("end")
        self.assertEqual(refused(reader.finish), ("close", "main"))
        self.assertEqual((len(reader), reader.depth), (4, 0))
        self.assertEqual(refused(Reader().finish), ("many", ""))
        self.assertEqual(refused(reader_of(PLACE).finish), ("many", ""))

    def test_finish_does_not_change_the_reader(self):
        reader = reader_of("fun main()", "  return 0", "end")
        made = reader.finish()
        self.assertTrue(reader.finish() == made)
        reader.take("watch a 000000 good")
        self.assertEqual(refused(reader.finish), ("unknown", "a"))
        self.assertEqual(made, Program((), (("fun", "main", (), None, (RETURN,)),), ()))

    def test_readers_are_apart(self):
        one, two = reader_of(PLACE), Reader()
        list(one).clear()
        self.assertEqual((len(one), len(two)), (1, 0))


class TestReadProgram(unittest.TestCase):
    def test_every_line(self):
        self.assertEqual(read_program(EVERY), every())

    def test_text_of_what_was_read(self):
        for made in random_programs(63, 150):
            text = write_program(made)
            self.assertEqual(read_program(text), made)
            self.assertEqual(write_program(read_program(text)), text)

    def test_the_empty_text(self):
        self.assertEqual(refused(read_program, ""), 1)
        self.assertEqual(refused(read_program, "\n"), 1)

    def test_first_line_that_does_not_fit(self):
        lines = EVERY.split("\n")
        for at in range(len(lines)):
            for wrong in ("", "x", " " + lines[at], lines[at] + " "):
                self.assertEqual(refused(read_program, "\n".join(lines[:at] + [wrong, "more"])), at + 1)
        self.assertEqual(refused(read_program, EVERY + "\n"), len(lines) + 1)
        self.assertEqual(refused(read_program, "\n" + EVERY), 1)

    def test_something_is_open(self):
        self.assertEqual(refused(read_program, "fun main()\n  return 0"), 3)
        self.assertEqual(refused(read_program, "fun main()"), 2)
        self.assertEqual(refused(read_program, "fun main()\n  if 1\n  end"), 4)

    def test_conditions_come_last(self):
        self.assertEqual(refused(read_program, "place a = 1"), ("many", ""))
        self.assertEqual(refused(read_program, "fun f()\n  return 0\nend"), ("main", "f"))
        self.assertEqual(refused(read_program, "fun main()\n  loop 1\n    let x = 1\n  end\n  return 0\nend"),
                         ("let", "main.2"))
        self.assertEqual(refused(read_program, "fun main()\n  return 0\nend\nwatch a good"), ("unknown", "a"))
        self.assertEqual(refused(read_program, "place a = 1\nfun main()\n  return 0\nend\nwatch a good"), ("wish", "a"))
        self.assertEqual(refused(read_program, "fun f()\n  return 0"), 3)

    def test_changed_texts(self):
        rng = random.Random(64)
        texts = [write_program(made) for made in random_programs(65, 40)]
        read = 0
        for _ in range(4000):
            text = rng.choice(texts)
            at = rng.randrange(len(text))
            sign = rng.choice(["", "", "1", "x", " ", "(", ")", ",", "'", "\n", "=", "lent "])
            text = text[:at] + sign + text[at + rng.randrange(2):]
            if refused(read_program, text) is None:
                read += 1
                self.assertEqual(write_program(read_program(text)), text)
        self.assertGreater(read, 50)


class TestReadRow(unittest.TestCase):
    def test_every_row(self):
        for made in random_programs(66, 100) + [every()]:
            for _, row in made.rows():
                lines = write_row(row)
                before = list(lines)
                self.assertEqual(read_row(lines), row)
                self.assertEqual(lines, before)

    def test_small_rows(self):
        self.assertEqual(read_row(["print x + 1"]), ("print", add(name("x"), lit(1))))
        self.assertEqual(read_row(["if 1", "end"]), ("if", lit(1), (), ()))
        self.assertEqual(read_row(["if 1", "else", "  print 1", "end"]), ("if", lit(1), (), (PRINT,)))
        self.assertEqual(read_row(["loop 2", "  loop 1", "    print 1", "  end", "end"]),
                         ("loop", 2, (("loop", 1, (PRINT,)),)))

    def test_lines_that_do_not_fit(self):
        for lines, line in ((["  print 1"], 1), (["nothing"], 1), ([""], 1), (["end"], 1), (["else"], 1),
                            (["fun f()"], 1), (["place a = 1"], 1),
                            (["print 1 "], 1), (["loop 2", "print 1", "end"], 2),
                            (["loop 2", "  print 1", "  end"], 3), (["if 1", "else", "end"], 3),
                            (["if 1", "  print 1", "else", "else"], 4), (["loop 1", "else"], 2)):
            self.assertEqual(refused(read_row, lines), line, lines)

    def test_lines_behind_the_end(self):
        for lines, line in ((["print 1", "print 1"], 2), (["loop 1", "end", "end"], 3),
                            (["loop 1", "end", "nothing"], 3), (["print 1", ""], 2),
                            (["return 0", "end"], 2), (["if 1", "end", "else"], 3)):
            self.assertEqual(refused(read_row, lines), line, lines)

    def test_rows_that_have_not_ended(self):
        for lines in ([], ["loop 1"], ["if 1", "  print 1"], ["if 1", "else", "  print 1"],
                      ["loop 1", "  loop 1", "  end"]):
            self.assertEqual(refused(read_row, lines), len(lines) + 1)

    def test_depth(self):
        lines = ["loop 1", "  loop 1", "    loop 1", "    end", "  end", "end"]
        self.assertEqual(read_row(lines), ("loop", 1, (("loop", 1, (("loop", 1, ()),)),)))
        self.assertEqual(refused(read_row, lines[:3] + ["      print 1"]), 4)
        self.assertEqual(refused(read_row, ["if 1", "  if 1", "    if 1", "    else"]), 4)

    def test_conditions_do_not_matter(self):
        self.assertEqual(read_row(["loop 3", "  let x = nobody", "  return 0", "end"]),
                         ("loop", 3, (("let", "x", None, name("nobody")), RETURN)))


if __name__ == "__main__":
    unittest.main()
