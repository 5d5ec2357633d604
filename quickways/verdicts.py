"""All faults of a program, and the verdict on it under books."""

from quickways.castfaults import fork_faults
from quickways.errors import NotLet
from quickways.exitfaults import branch_faults, loop_faults, stale_faults
from quickways.lending import alias_faults, name_faults, task_faults, watched_faults
from quickways.reach import Reach
from quickways.sharing import ask_faults, share_faults
from quickways.stillness import still_faults


def faults(program):
    """The list of all faults of a program, in the order of the rules."""
    reach = Reach(program)
    return (fork_faults(program)
            + alias_faults(program) + name_faults(program, reach) + watched_faults(program)
            + task_faults(program, reach)
            + branch_faults(program) + loop_faults(program) + stale_faults(program)
            + share_faults(program, reach) + ask_faults(program, reach)
            + still_faults(program))


def verdict(program, books):
    """The list of the faults of the rules that are in force."""
    return [fault for fault in faults(program) if fault[0] in books]


def lets(books, program):
    """Whether books let a program."""
    return verdict(program, books) == []


def demand(books, program):
    """Raises NotLet for the first fault of the verdict, if there is one."""
    found = verdict(program, books)
    if found:
        rule, where = found[0]
        raise NotLet(rule, where)
