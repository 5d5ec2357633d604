"""Edits: one row of a program, with the rows inside it, replaced by another one."""

from quickways.errors import BadEdit, BadProgram
from quickways.names import label_of
from quickways.trees import row_at, size_of


def edited(program, edit):
    """The program with an edit done."""
    fun, number, row = edit
    try:
        return program.with_rows(fun, number, (row,))
    except BadProgram as why:
        raise BadEdit(label_of(fun, number)) from why


def undoing(program, edit):
    """The edit that takes back an edit of a program."""
    fun, number, row = edit
    return (fun, number, row_at(program.fun(fun), number))


def moved(program, edit, over):
    """An edit moved behind another edit of the same program, or None if it is lost."""
    fun, number, row = edit
    undoing(program, edit)
    replaced = undoing(program, over)
    if fun != over[0] or number < over[1]:
        return edit
    size = size_of((replaced[2],))
    if number < over[1] + size:
        return None
    return (fun, number + size_of((over[2],)) - size, row)
