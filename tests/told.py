"""Lists that the document tells: the rules, the unsafe sets and the stories [81, 84, 96]."""

RULES = ("casts.fork", "loans.alias", "loans.name", "loans.watched", "loans.task", "exits.branch", "exits.loop",
         "exits.stale", "tasks.share", "tasks.ask", "watch.still")

# The unsafe sets of rules: a part is open if one of them has no rule in force.
UNSAFE = (
    ("casts", ("casts.fork",)), ("loans", ("loans.alias",)), ("loans", ("loans.name",)), ("loans", ("loans.watched",)),
    ("loans", ("loans.task", "tasks.share")), ("exits", ("exits.branch",)), ("exits", ("exits.loop",)),
    ("exits", ("exits.stale",)),
    ("tasks", ("tasks.share",)), ("tasks", ("tasks.ask",)), ("watch", ("watch.still",)))

# For each unsafe set the program of its story, with answers and a weaving.
STORIES = (
    ("place a = -50 / fun main() / call f(lent a) / return 0 / end / fun f(lent p) / narrow p to small "
     "/ narrow p to nat / print p / return 0 / end", (), ()),
    ("place a = 0 / fun main() / call f(lent a, lent a) / return 0 / end / fun f(lent p, lent q) / set p = 1 "
     "/ return 0 / end", (), ()),
    ("place a = 0 / fun main() / call f(lent a) / return 0 / end / fun f(lent p) / set a = 1 / return 0 / end", (), ()),
    ("place a = 5 / fun main() / call f(lent a) / return 0 / end / fun f(lent p) / set p = 1 / set p = 5 "
     "/ return 0 / end / watch a 001000 111111 good 0", (), ()),
    ("place a = 0 / fun main() / start t = g(lent a) / set a = 1 / wait t / return 0 / end / fun g(lent p) "
     "/ return 0 / end", (), ()),
    ("fun main() / if 0 / defer always print 1 / end / return 0 / end", (), ()),
    ("fun main() / loop 2 / defer always print 1 / end / return 0 / end", (), ()),
    ("fun main() / let x = 1 / defer always print x / set x = 2 / return 0 / end", (), ()),
    ("place a = 0 / fun main() / start t = g() / print a / wait t / return 0 / end / fun g() / set a = 1 "
     "/ return 0 / end", (), (0, 1)),
    ("fun main() / let x = 0 / start t = g(0) / ask x / wait t / return x / end / fun g(y) / ask y / return 0 / end",
     (1, 2), (0, 0, 1)),
    ("place a = 0 / fun main() / set a = 0 / return 0 / end / watch a 111111 000000 good 0", (), ()))
