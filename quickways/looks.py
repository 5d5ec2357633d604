"""Looks at functions: the faults at the rows of one function, and the inputs on which these depend."""

from quickways.castfaults import fork_faults_in, kinds_ahead
from quickways.exitfaults import branch_faults_in, loop_faults_in, stale_faults_in
from quickways.kinds import KINDS
from quickways.lending import alias_faults_in, name_faults_in, task_faults_in, watched_faults_in
from quickways.reach import Reach
from quickways.sharing import ask_faults_in, share_faults_in
from quickways.trees import called_fun, numbered_rows


def inputs(program, fun):
    """The inputs of the function of a name."""
    return inputs_at(Reach(program), program.fun(fun))


def look(program, fun):
    """The look at the function of a name: the faults of all rules at its rows."""
    return look_at(Reach(program), program.fun(fun))


def inputs_at(reach, fun):
    """The inputs of a function; `reach` is the Reach of the program."""
    program = reach.program
    called = [called_fun(row) for number, depth, row in numbered_rows(fun)]
    callees = [_callee_told(reach, other) for other in program.funs if other[1] in called]
    points = [(param[1], reach.points(fun[1], param[1])) for param in fun[2] if param[0] == "lent"]
    reads, writes = kinds_ahead(program, fun)
    ahead = tuple([kind for kind in KINDS if kind in reads]), tuple([kind for kind in KINDS if kind in writes])
    return (fun, tuple(callees), tuple(points), ahead)


def look_at(reach, fun):
    """The look at a function; `reach` is the Reach of the program."""
    program = reach.program
    funs = (fun,)
    return (fork_faults_in(program, fun)
            + alias_faults_in(funs) + name_faults_in(program, reach, funs) + watched_faults_in(program, funs)
            + task_faults_in(reach, funs)
            + branch_faults_in(funs) + loop_faults_in(funs) + stale_faults_in(program, funs)
            + share_faults_in(reach, funs) + ask_faults_in(reach, funs))


def _callee_told(reach, fun):
    """What the inputs of a function tell of a function that it calls or starts."""
    name = fun[1]
    return (name, fun[2], reach.uses(name), reach.sets(name), reach.lends(name), reach.named(name), reach.asks(name))
