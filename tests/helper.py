"""Short ways to write programs in the tests."""

from quickways.errors import BadProgram
from quickways.programs import Program
from quickways.reading import read_program

RETURN = ("return", ("lit", 0))
PRINT = ("print", ("lit", 1))
STATE = (0, 0, 0, 0, 0, 0)
WISH = ("wish", (STATE,), (0,))


def lit(value):
    return ("lit", value)


def name(text):
    return ("name", text)


def add(left, right):
    return ("add", left, right)


def deep(depth):
    """An expression of a depth."""
    expr = lit(1)
    for _ in range(depth - 1):
        expr = add(expr, lit(2))
    return expr


def worth(expr):
    return ("worth", expr)


def lent(text):
    return ("lent", text)


def place(text, value=0, kind=None):
    return ("place", text, kind, value)


def worth_param(text, kind=None):
    return ("worth", text, kind)


def lent_param(text, kind=None):
    return ("lent", text, kind)


def fun(text, params, *rows, result=None):
    """A function with exactly these rows."""
    return ("fun", text, tuple(params), result, tuple(rows))


def main(*rows):
    """The function main with these rows and a return row."""
    return fun("main", (), *rows, RETURN)


def call(callee, *args):
    return ("call", None, callee, tuple(args))


def start(task, callee, *args):
    return ("start", task, callee, tuple(args))


def wait(task):
    return ("wait", None, task)


def watch(text, wish=WISH):
    return ("watch", text, wish)


def program(*funs, places=(), watches=()):
    return Program(tuple(places), tuple(funs), tuple(watches))


def broken(*funs, places=(), watches=()):
    """The reason and the where of the condition that a program breaks, None if it breaks none."""
    try:
        program(*funs, places=places, watches=watches)
    except BadProgram as why:
        return (why.reason, why.where)
    return None


def places_named(*names):
    return tuple(place(text) for text in names)


def unslashed(text):
    """The text of a program that is written with a slash between two lines and without spaces in front."""
    lines = []
    depth = 0
    for line in text.split(" / "):
        if line in ("else", "end"):
            lines.append("  " * (depth - 1) + line)
            depth -= line == "end"
        else:
            lines.append("  " * depth + line)
            depth += line.split(" ")[0] in ("fun", "if", "loop")
    return "\n".join(lines)


def written(text):
    """The program of such a text."""
    return read_program(unslashed(text))
