"""The lines of texts of programs: what stands on each of them, wherever the line stands.

A line is first read without regard for each space and sign in it, and then compared with its written form."""

from quickways.errors import BadText
from quickways.expressions import read_expr, read_simple
from quickways.kinds import KINDS
from quickways.names import is_name, read_value
from quickways.writing import first_line, fun_line, place_line, watch_line

GUARDS = ("done", "fail", "always")
COUNTS = ("1", "2", "3")
STATES = ("0", "1", "2", "3", "4", "5")
STATE_DIGITS = 6


def read_place_line(text, line):
    """The place of a line."""
    head, _, value = text.removeprefix("place ").partition(" = ")
    name, kind = _read_kinded(head, line)
    place = ("place", name, kind, read_value(value, line))
    _require(place_line(place) == text, line)
    return place


def read_fun_line(text, line):
    """The function of a line, without its rows."""
    name, _, rest = text.removeprefix("fun ").partition("(")
    inside, _, behind = rest.partition(")")
    kind = behind.removeprefix(" ")
    _require(is_name(name) and (kind == "" or kind in KINDS), line)
    params = [_read_param(item, line) for item in _items_of(inside)]
    fun = ("fun", name, tuple(params), kind if kind else None, ())
    _require(fun_line(fun) == text, line)
    return fun


def read_watch_line(text, line):
    """The watch of a line."""
    words = text.split(" ")
    _require(len(words) > 2 and is_name(words[1]) and "good" in words[2:], line)
    at = words.index("good", 2)
    table = [_read_state(word, line) for word in words[2:at]]
    _require(all([word in STATES for word in words[at + 1:]]), line)
    good = [int(word) for word in words[at + 1:]]
    watch = ("watch", words[1], ("wish", tuple(table), tuple(good)))
    _require(watch_line(watch) == text, line)
    return watch


def _read_state(text, line):
    """The state of a wish of six digits."""
    _require(len(text) == STATE_DIGITS and all([sign in STATES for sign in text]), line)
    return tuple([int(sign) for sign in text])


def _read_param(text, line):
    """The parameter of a text."""
    form = "lent" if text.startswith("lent ") else "worth"
    name, kind = _read_kinded(text.removeprefix("lent "), line)
    return (form, name, kind)


def _read_let(rest, line):
    head, _, value = rest.partition(" = ")
    name, kind = _read_kinded(head, line)
    return ("let", name, kind, read_expr(value, line))


def _read_set(rest, line):
    name, _, value = rest.partition(" = ")
    return ("set", _named(name, line), read_expr(value, line))


def _read_print(rest, line):
    return ("print", read_expr(rest, line))


def _read_return(rest, line):
    return ("return", read_expr(rest, line))


def _read_ask(rest, line):
    return ("ask", _named(rest, line))


def _read_call(rest, line):
    target, called = _read_target(rest, line)
    name, args = _read_called(called, line)
    return ("call", target, name, args)


def _read_start(rest, line):
    task, called = _read_target(rest, line)
    _require(task is not None, line)
    name, args = _read_called(called, line)
    return ("start", task, name, args)


def _read_wait(rest, line):
    target, task = _read_target(rest, line)
    return ("wait", target, _named(task, line))


def _read_defer(rest, line):
    guard, _, deed = rest.partition(" ")
    _require(guard in GUARDS, line)
    word, _, told = deed.partition(" ")
    if word == "print":
        return ("defer", guard, ("print", read_simple(told, line)))
    _require(word == "set", line)
    name, _, value = told.partition(" = ")
    return ("defer", guard, ("set", _named(name, line), read_simple(value, line)))


def _read_narrow(rest, line):
    name, _, kind = rest.partition(" to ")
    _require(kind in KINDS, line)
    return ("narrow", _named(name, line), kind)


def _read_if(rest, line):
    return ("if", read_expr(rest, line), (), ())


def _read_loop(rest, line):
    _require(rest in COUNTS, line)
    return ("loop", int(rest), ())


READERS = {
    "let": _read_let, "set": _read_set, "print": _read_print, "ask": _read_ask, "call": _read_call,
    "start": _read_start, "wait": _read_wait, "defer": _read_defer, "narrow": _read_narrow, "if": _read_if,
    "loop": _read_loop, "return": _read_return,
}


def read_row_line(text, line):
    """The row of its first line without the spaces in front; it has no rows inside it."""
    word, _, rest = text.partition(" ")
    _require(word in READERS, line)
    reader = READERS[word]
    row = reader(rest, line)
    _require(first_line(row) == text, line)
    return row


def _require(holds, line):
    """Raises BadText with the number of the line if something does not hold."""
    if not holds:
        raise BadText(line)


def _named(text, line):
    """The text itself, which must be a name."""
    _require(is_name(text), line)
    return text


def _read_kinded(text, line):
    """The name of a text and the kind behind it, None if there is none."""
    name, _, kind = text.partition(" ")
    _require(kind == "" or kind in KINDS, line)
    return _named(name, line), kind if kind else None


def _read_target(text, line):
    """The name in front of an equals sign, None if there is none, and what stands behind it."""
    name, sign, rest = text.partition(" = ")
    if sign == "":
        return None, text
    return _named(name, line), rest


def _read_called(text, line):
    """The name of the function that is called, and the arguments."""
    name, _, rest = text.partition("(")
    args = [_read_arg(item, line) for item in _items_of(rest.removesuffix(")"))]
    return _named(name, line), tuple(args)


def _read_arg(text, line):
    """The argument of a text."""
    if text.startswith("lent "):
        return ("lent", _named(text.removeprefix("lent "), line))
    return ("worth", read_expr(text, line))


def _items_of(text):
    """The items of a list in brackets."""
    return text.split(", ") if text else []
