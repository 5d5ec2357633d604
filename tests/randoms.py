"""Programs, functions and wishes that a seed chooses, for tests that hold for all of them."""

import random

from quickways.errors import BadProgram
from quickways.kinds import KINDS, fits
from quickways.programs import Program
from quickways.trees import closes, numbered_rows, size_of

VALUES = (0, 0, 1, 1, 1, 2, 5, -3, -50, 50, "red")
CALM_VALUES = (0, 0, 1, 1, 1, 2, 5, -3)
CALM_KINDS = (None,) * 24 + KINDS[:3]
GUARDS = ("done", "fail", "always")


class Maker:
    """Makes a function: rows that can be done at their places, as far as that is easy to see."""

    def __init__(self, rng, places, callees, name, params, calm):
        self.rng = rng
        # In calm programs few things fail, and so they go on for longer.
        self.values = CALM_VALUES if calm else VALUES
        self.kinds = CALM_KINDS if calm else (None, None, None) + KINDS
        self.calm = calm
        self.places = places
        self.callees = callees
        self.name = name
        self.params = params
        self.lent = [param[1] for param in params if param[0] == "lent"]
        self.locals = []
        self.made = 0
        self.left = rng.randrange(3, 13)

    def names(self):
        return list(self.places) + [param[1] for param in self.params] + self.locals

    def simple(self):
        names = self.names()
        if names and self.rng.random() < 0.6:
            return ("name", self.rng.choice(names))
        return ("lit", self.rng.choice(self.values))

    def expr(self, depth=3):
        if depth == 1 or self.rng.random() < 0.6:
            return self.simple()
        word = self.rng.choice(("add", "sub", "less", "same"))
        return (word, self.expr(depth - 1), self.expr(depth - 1))

    def test(self):
        if not self.calm:
            return self.expr()
        if self.rng.random() < 0.5:
            return ("lit", self.rng.randrange(2))
        return (self.rng.choice(("less", "same")), self.simple(), self.simple())

    def args(self, callee):
        params = self.callees[callee]
        lendable = list(self.places) + self.lent
        if any(param[0] == "lent" for param in params) and not lendable:
            return None
        found = []
        for param in params:
            found.append(("lent", self.rng.choice(lendable)) if param[0] == "lent" else ("worth", self.expr(2)))
        return tuple(found)

    def fresh(self, letter):
        self.made += 1
        return f"{letter}{self.made}"

    def plain_row(self, depth):
        """One row, or a start row and its partner with rows between them."""
        words = ["set", "set", "print", "print", "ask", "defer", "defer", "call", "start", "narrow", "let"]
        word = self.rng.choice(words)
        names = self.names()
        if word == "let" and depth == 1:
            row = ("let", self.fresh("x"), self.rng.choice(self.kinds), self.expr())
            self.locals.append(row[1])
            return [row]
        if word == "set" and names:
            return [("set", self.rng.choice(names), self.expr())]
        if word == "ask" and names:
            return [("ask", self.rng.choice(names))]
        if word == "narrow" and self.lent:
            return [("narrow", self.rng.choice(self.lent), self.rng.choice(KINDS))]
        if word == "defer":
            deed = ("print", self.simple())
            if names and self.rng.random() < 0.5:
                deed = ("set", self.rng.choice(names), self.simple())
            return [("defer", self.rng.choice(GUARDS), deed)]
        if word in ("call", "start") and self.callees:
            return self.calling(word, depth, names)
        return [("print", self.expr())]

    def calling(self, word, depth, names):
        callee = self.rng.choice(list(self.callees))
        args = self.args(callee)
        if args is None:
            return []
        target = self.rng.choice(names) if names and self.rng.random() < 0.5 else None
        if word == "call":
            return [("call", target, callee, args)]
        task = self.fresh("t")
        between = self.rows(depth, self.rng.randrange(3))
        return [("start", task, callee, args)] + list(between) + [("wait", target, task)]

    def rows(self, depth, most):
        found = []
        while len(found) < most and self.left > 0:
            self.left -= 1
            word = self.rng.random()
            if depth < 3 and word < 0.15:
                found.append(("if", self.test(), self.inner(depth), self.inner(depth)))
                if closes(found[-1:]):
                    found.pop()
            elif depth < 3 and word < 0.25:
                inner = self.rows(depth + 1, self.rng.randrange(3))
                found.append(("loop", self.rng.randrange(1, 4), inner))
            else:
                found.extend(self.plain_row(depth))
        return tuple(found)

    def inner(self, depth):
        """A rows list of an if row, which closes at times."""
        found = self.rows(depth + 1, self.rng.randrange(3))
        if self.rng.random() < 0.15:
            found += (("return", self.simple()),)
        return found

    def function(self):
        rows = self.rows(1, 8)
        for callee in self.callees:
            if self.rng.random() < 0.3:
                args = self.args(callee)
                if args is not None:
                    rows += (("call", None, callee, args),)
        rows += (("return", self.expr(2)),)
        return ("fun", self.name, self.params, self.rng.choice(self.kinds), rows)


def random_wish(rng, most=3):
    many = rng.randrange(1, most + 1)
    table = tuple(tuple(rng.randrange(many) for _ in range(6)) for _ in range(many))
    return ("wish", table, tuple(state for state in range(many) if rng.random() < 0.5))


def random_trees(rng, calm):
    places = []
    for text in rng.sample(("a", "b", "c", "d"), rng.randrange(0, 4)):
        value = rng.choice(CALM_VALUES if calm else VALUES)
        kinds = [None] * (12 if calm else 1) + [kind for kind in KINDS if fits(value, kind)]
        places.append(("place", text, rng.choice(kinds), value))
    names = [place[1] for place in places]
    callees = {}
    funs = []
    for text in ("main", "f", "g", "h")[:rng.randrange(1, 5)][::-1]:
        params = ()
        if text != "main":
            words = [rng.choice(("worth", "lent", "lent")) for _ in range(rng.randrange(3))]
            kinds = CALM_KINDS if calm else (None, None, None) + KINDS
            params = tuple((word, f"p{at}", rng.choice(kinds)) for at, word in enumerate(words))
        funs.insert(0, Maker(rng, names, dict(callees), text, params, calm).function())
        callees[text] = params
    watches = tuple(("watch", rng.choice(names), random_wish(rng)) for _ in range(rng.randrange(3)) if names)
    return tuple(places), tuple(funs), watches


def random_program(rng, calm=False):
    """A program that keeps all conditions."""
    while True:
        try:
            return Program(*random_trees(rng, calm))
        except BadProgram:
            continue


def random_programs(seed, many, calm=False):
    """So many programs, the same ones for the same seed."""
    rng = random.Random(seed)
    return [random_program(rng, calm) for _ in range(many)]


def random_functions(seed, many, most=16):
    """So many functions of such programs, all of them with at most this many rows."""
    found = []
    rng = random.Random(seed)
    while len(found) < many:
        found.extend(fun for fun in random_program(rng).funs if size_of(fun[4]) <= most)
    return found[:many]


def random_edit(rng, program):
    """An edit of a program, which can be done or breaks a condition."""
    fun = rng.choice(program.funs)
    rows = numbered_rows(fun)
    number, _, row = rng.choice(rows)
    names = [place[1] for place in program.places] + [param[1] for param in fun[2]]
    value = ("lit", rng.choice(VALUES))
    lent = [param[1] for param in fun[2] if param[0] == "lent"]
    made = [("print", value), ("return", value), ("loop", rng.randrange(1, 4), (row,)), ("if", value, (row,), ()),
            ("if", ("lit", 1), (("print", value),), (row, row)), rng.choice(rows)[2],
            ("defer", "always", ("print", ("name", rng.choice(names)) if names else value))]
    made += [("set", text, value) for text in names] + [("ask", text) for text in names]
    made += [("narrow", text, rng.choice(KINDS)) for text in lent]
    made += list(row[2][:1]) if row[0] in ("if", "loop") else []
    return (fun[1], number, rng.choice(made))
