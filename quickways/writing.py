"""The texts of programs and rows."""

from quickways.expressions import show_expr
from quickways.names import show_value
from quickways.trees import row_args


def write_program(program):
    """The text of a program."""
    lines = [place_line(place) for place in program.places]
    for fun in program.funs:
        lines.append(fun_line(fun))
        lines.extend([line for line, starts in rows_lines(fun[4], 1)])
        lines.append("end")
    lines.extend([watch_line(watch) for watch in program.watches])
    return "\n".join(lines)


def write_row(row):
    """The lines of a row alone."""
    return [line for line, starts in rows_lines((row,), 0)]


def place_line(place):
    """The line of a place."""
    return f"place {_with_kind(place[1], place[2])} = {show_value(place[3])}"


def fun_line(fun):
    """The first line of a function."""
    params = [_with_kind(f"lent {name}" if form == "lent" else name, kind) for form, name, kind in fun[2]]
    return _with_kind(f"fun {fun[1]}({_listed(params)})", fun[3])


def watch_line(watch):
    """The line of a watch."""
    states = ["".join([str(number) for number in state]) for state in watch[2][1]]
    good = [str(number) for number in watch[2][2]]
    return " ".join(["watch", watch[1]] + states + ["good"] + good)


def rows_lines(rows, depth):
    """The tuples of each line of the rows of a depth, and whether it is the first line of a row."""
    indent = " " * (2 * depth)
    lines = []
    for row in rows:
        lines.append((indent + first_line(row), True))
        if row[0] in ("if", "loop"):
            lines.extend(rows_lines(row[2], depth + 1))
            if row[0] == "if" and row[3]:
                lines.append((indent + "else", False))
                lines.extend(rows_lines(row[3], depth + 1))
            lines.append((indent + "end", False))
    return lines


def first_line(row):
    """The first line of a row, without the spaces in front."""
    word = row[0]
    if word == "let":
        return f"let {_with_kind(row[1], row[2])} = {show_expr(row[3])}"
    if word == "set":
        return f"set {row[1]} = {show_expr(row[2])}"
    if word in ("print", "if", "return"):
        return f"{word} {show_expr(row[1])}"
    if word in ("ask", "loop"):
        return f"{word} {row[1]}"
    if word == "narrow":
        return f"narrow {row[1]} to {row[2]}"
    if word == "defer":
        # The deed is written as the row that does the same at once.
        return f"defer {row[1]} {first_line(row[2])}"
    called = row[2] if word == "wait" else f"{row[2]}({_listed(_shown_args(row))})"
    return f"{word} {called}" if row[1] is None else f"{word} {row[1]} = {called}"


def _with_kind(text, kind):
    """A text and a kind behind it, if the kind is told."""
    return text if kind is None else f"{text} {kind}"


def _listed(texts):
    """Texts with a comma and a space between them."""
    return ", ".join(texts)


def _shown_args(row):
    """The texts of the arguments of a call or start row."""
    return [f"lent {arg[1]}" if arg[0] == "lent" else show_expr(arg[1]) for arg in row_args(row)]
