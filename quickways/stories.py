"""Stories: for each unsafe set of rules a small program that parts the two ways of its part."""

from quickways.errors import NoEntry
from quickways.mixtures import Mixture
from quickways.reading import read_program
from quickways.rules import UNSAFE, rules_of
from quickways.runs import tell

# For each unsafe set the text of the program, the answers and the weaving.
TOLD = (
    ("""place a = -50
fun main()
  call f(lent a)
  return 0
end
fun f(lent p)
  narrow p to small
  narrow p to nat
  print p
  return 0
end""", (), ()),
    ("""place a = 0
fun main()
  call f(lent a, lent a)
  return 0
end
fun f(lent p, lent q)
  set p = 1
  return 0
end""", (), ()),
    ("""place a = 0
fun main()
  call f(lent a)
  return 0
end
fun f(lent p)
  set a = 1
  return 0
end""", (), ()),
    ("""place a = 5
fun main()
  call f(lent a)
  return 0
end
fun f(lent p)
  set p = 1
  set p = 5
  return 0
end
watch a 001000 111111 good 0""", (), ()),
    ("""place a = 0
fun main()
  start t = g(lent a)
  set a = 1
  wait t
  return 0
end
fun g(lent p)
  return 0
end""", (), ()),
    ("""fun main()
  if 0
    defer always print 1
  end
  return 0
end""", (), ()),
    ("""fun main()
  loop 2
    defer always print 1
  end
  return 0
end""", (), ()),
    ("""fun main()
  let x = 1
  defer always print x
  set x = 2
  return 0
end""", (), ()),
    ("""place a = 0
fun main()
  start t = g()
  print a
  wait t
  return 0
end
fun g()
  set a = 1
  return 0
end""", (), (0, 1)),
    ("""fun main()
  let x = 0
  start t = g(0)
  ask x
  wait t
  return x
end
fun g(y)
  ask y
  return 0
end""", (1, 2), (0, 0, 1)),
    ("""place a = 0
fun main()
  set a = 0
  return 0
end
watch a 111111 000000 good 0""", (), ()),
)


class Story:
    """A program with answers and a weaving that tells differently in two mixtures."""

    def __init__(self, part, rules, program, answers, weaving):
        self.part = part
        self.rules = rules
        self.program = program
        self.answers = answers
        self.weaving = weaving

    @property
    def one(self):
        """The mixture in which every part is plain."""
        return Mixture()

    @property
    def other(self):
        """The mixture in which the part of the story is quick and the others are plain."""
        return Mixture() ^ self.part

    def tells(self, mixture):
        """The telling of the program in a mixture."""
        return tell(self.program, mixture, answers=self.answers, weaving=self.weaving)


def stories():
    """Yields the eleven stories in the order of the unsafe sets."""
    for (part, rules), (text, answers, weaving) in zip(UNSAFE, TOLD):
        yield Story(part, rules, read_program(text), answers, weaving)


def story_for(part, rules):
    """The story of a part and its rules, which stand in their order."""
    rules_of(part)
    for story in stories():
        if story.part == part and story.rules == tuple(rules):
            return story
    raise NoEntry(part)
