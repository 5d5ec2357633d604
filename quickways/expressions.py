"""The texts of expressions."""

from quickways.errors import BadText
from quickways.names import is_name, read_value, show_value

SIGNS = {"add": "+", "sub": "-", "less": "<", "same": "=="}
WORDS = {"+": "add", "-": "sub", "<": "less", "==": "same"}
MOST_DEPTH = 3


def show_expr(expr):
    """The text of an expression."""
    if expr[0] == "lit":
        return show_value(expr[1])
    if expr[0] == "name":
        return expr[1]
    return f"{_show_operand(expr[1])} {SIGNS[expr[0]]} {_show_operand(expr[2])}"


def read_expr(text, line=1):
    """The expression of a text."""
    return _read(text, MOST_DEPTH, line)


def read_simple(text, line):
    """The simple expression of a text."""
    return _read(text, 1, line)


def _show_operand(expr):
    text = show_expr(expr)
    return text if expr[0] in ("lit", "name") else f"({text})"


def _read(text, depth, line):
    """The expression of a text that has at most this depth."""
    if is_name(text):
        return ("name", text)
    if " " not in text:
        return ("lit", read_value(text, line))
    if depth == 1:
        raise BadText(line)
    left, rest = _first_operand(text, line)
    sign, _, right = rest.partition(" ")
    if sign not in WORDS:
        raise BadText(line)
    return (WORDS[sign], _read_operand(left, depth - 1, line), _read_operand(right, depth - 1, line))


def _first_operand(text, line):
    """The text of the left operand, with its brackets, and what stands behind the space behind it."""
    opened = 0
    for at, sign in enumerate(text):
        if sign == "(":
            opened += 1
        if sign == ")":
            opened -= 1
        if sign == " " and opened == 0:
            return text[:at], text[at + 1:]
    raise BadText(line)


def _read_operand(text, depth, line):
    """The operand of a text; it stands in brackets if it is not simple."""
    if " " not in text:
        return _read(text, depth, line)
    if text[0] != "(" or text[-1] != ")":
        raise BadText(line)
    return _read(text[1:-1], depth, line)
