"""Holders of kinds, demands of rows, and the flows to holders."""

from quickways.kinds import least_kind
from quickways.names import label_of
from quickways.trees import called_fun, numbered_rows, row_args, row_exprs

RESULT = ""


def holders(program):
    """The tuples (holder, kind) of all holders in reading order, with None for a kind that is left out."""
    found = [(("", place[1]), place[2]) for place in program.places]
    for fun in program.funs:
        found.extend([((fun[1], param[1]), param[2]) for param in fun[2]])
        found.append(((fun[1], RESULT), fun[3]))
        lets = [row for number, depth, row in numbered_rows(fun) if row[0] == "let"]
        found.extend([((fun[1], row[1]), row[2]) for row in lets])
    return found


def left_out(program):
    """The holders whose kinds are left out, in reading order."""
    return [holder for holder, kind in holders(program) if kind is None]


def kind_of(program, fun, expr):
    """The kind of an expression in a function."""
    program.fun(fun)
    if expr[0] == "name":
        return program.kind(fun, expr[1])
    return source_of(program, fun, expr)


def source_of(program, fun, expr):
    """The source of an expression in a function: a kind or a holder."""
    if expr[0] == "lit":
        return least_kind(expr[1])
    if expr[0] == "name":
        return holder_of(program, fun, expr[1])
    return "num" if expr[0] in ("add", "sub") else "bit"


def holder_of(program, fun, name):
    """The holder that a name of a function stands for."""
    return ("", name) if program.is_place(name) else (fun, name)


def kinds_of_holders(program):
    """The kinds of all holders, `any` for those that are left out."""
    return {holder: "any" if kind is None else kind for holder, kind in holders(program)}


def kind_in(kinds, source):
    """The kind of a source, where `kinds` has the kinds of the holders."""
    return source if isinstance(source, str) else kinds[source]


def demands(program):
    """Yields the tuples (label, slot, source, target) of the demands of all rows in reading order."""
    for fun in program.funs:
        for number, depth, row in numbered_rows(fun):
            label = label_of(fun[1], number)
            for slot, source, target in _demands_of(program, fun, row):
                yield label, slot, source, target


def flows(program):
    """The tuples (where, slot, source, target) of all flows."""
    found = [(place[1], "first", least_kind(place[3]), ("", place[1])) for place in program.places]
    for label, slot, source, target in demands(program):
        if not isinstance(target, str):
            found.append((label, slot, source, target))
    return found


def _demands_of(program, fun, row):
    """The tuples (slot, source, target) of the demands of a row of a function."""
    if row[0] == "narrow":
        holder = (fun[1], row[1])
        return [("in", holder, row[2]), ("out", holder, row[2])]
    if called_fun(row) is not None:
        found = _demands_of_args(program, fun, row)
    else:
        found = []
        for expr in row_exprs(row):
            found.extend(_demands_inside(program, fun[1], expr, "e"))
    found.extend(_last_demand(program, fun, row))
    return found


def _demands_of_args(program, fun, row):
    """The demands of the arguments of a call or start row."""
    found = []
    for at, (arg, param) in enumerate(zip(row_args(row), program.fun(row[2])[2])):
        goal = (row[2], param[1])
        if arg[0] == "lent":
            holder = holder_of(program, fun[1], arg[1])
            found.append((f"in{at + 1}", holder, goal))
            found.append((f"out{at + 1}", goal, holder))
        else:
            found.extend(_demands_inside(program, fun[1], arg[1], str(at + 1)))
            found.append((f"to{at + 1}", source_of(program, fun[1], arg[1]), goal))
    return found


def _demands_inside(program, fun, expr, slot):
    """The demands of the operands of an expression."""
    if expr[0] in ("lit", "name"):
        return []
    found = []
    for operand, letter in zip(expr[1:], ("l", "r")):
        found.extend(_demands_inside(program, fun, operand, slot + letter))
        if expr[0] != "same":
            found.append((slot + letter, source_of(program, fun, operand), "num"))
    return found


def _last_demand(program, fun, row):
    """The list of the demand of the slot `to` of a row, empty if there is none."""
    name = fun[1]
    if row[0] in ("let", "set", "return", "if"):
        source = source_of(program, name, row_exprs(row)[0])
        if row[0] == "return":
            return [("to", source, (name, RESULT))]
        return [("to", source, "bit" if row[0] == "if" else holder_of(program, name, row[1]))]
    if row[0] == "defer" and row[2][0] == "set":
        return [("to", source_of(program, name, row[2][2]), holder_of(program, name, row[2][1]))]
    if row[0] == "ask":
        return [("to", "any", holder_of(program, name, row[1]))]
    if row[0] in ("call", "wait") and row[1] is not None:
        callee = row[2] if row[0] == "call" else _started_fun(fun, row[2])
        return [("to", (callee, RESULT), holder_of(program, name, row[1]))]
    return []


def _started_fun(fun, task):
    """The name of the function that is started under the name of a task."""
    return [row[2] for number, depth, row in numbered_rows(fun) if row[0] == "start" and row[1] == task][0]
