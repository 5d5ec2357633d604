"""Fillings: kinds for the holders whose kinds are left out."""

from quickways.errors import BadKind, NoRow, TooLarge
from quickways.flows import RESULT, flows, holders, kind_in, kinds_of_holders, left_out
from quickways.kinds import KINDS, join, under
from quickways.programs import Program


def with_kinds(program, kinds):
    """The program in which the holders whose kinds are left out have the kinds of a list."""
    for kind in kinds:
        if kind is not None and kind not in KINDS:
            raise BadKind(kind)
    goals = left_out(program)
    if len(kinds) > len(goals):
        raise TooLarge(len(goals))
    told = {goal: kind for goal, kind in zip(goals, kinds)}
    return Program(_filled_places(program, told), _filled_funs(program, told), program.watches)


def fill(program):
    """The least filling of a program."""
    kinds = _least_kinds(program)
    return with_kinds(program, [kinds[holder] for holder in left_out(program)])


def is_filling(program, other):
    """Whether the program `other` is a filling of a program."""
    kinds = {holder: kind for holder, kind in holders(other)}
    goals = left_out(program)
    told = {goal: kinds.get(goal) for goal in goals}
    if None in list(told.values()):
        return False
    if _filled_places(program, told) != other.places or _filled_funs(program, told) != other.funs:
        return False
    full = kinds_of_holders(other)
    asked = [(source, target) for where, slot, source, target in flows(program) if target in goals]
    return other.watches == program.watches and all([under(kind_in(full, one), full[goal]) for one, goal in asked])


def support(program, holder):
    """One or two trails to a holder whose kinds have the kind of the holder in the least filling as their join."""
    if holder not in left_out(program):
        raise NoRow(holder[1])
    goal = _least_kinds(program)[holder]
    trails = _trails_to(program, holder)
    if goal in trails:
        return [trails[goal]]
    pairs = [(one, other) for one in trails for other in trails if join(one, other) == goal]
    return [trails[kind] for kind in pairs[0]]


def _least_kinds(program):
    """The kinds of all holders in the least filling."""
    goals = left_out(program)
    kinds = {holder: kind for holder, kind in holders(program) if kind is not None}
    told = [(source, target) for where, slot, source, target in flows(program) if target in goals]
    grown = True
    while grown:
        grown = False
        for source, target in told:
            # A source whose kind is not known yet tells nothing so far.
            kind = source if isinstance(source, str) else kinds.get(source)
            if kind is not None and kinds.get(target) != _joined(kinds.get(target), kind):
                kinds[target] = _joined(kinds.get(target), kind)
                grown = True
    return kinds


def _joined(kind, other):
    """The join of two kinds, where the first one may be None for no kind so far."""
    return other if kind is None else join(kind, other)


def _trails_to(program, holder):
    """The first trail to a holder for each kind that a trail to it has, by these kinds."""
    kinds = kinds_of_holders(program)
    goals = left_out(program)
    every = flows(program)
    # For each holder from which flows lead to the given one, such flows.
    ways = {holder: ()}
    order = [holder]
    trails = {}
    at = 0
    while at < len(order):
        for flow in every:
            source = flow[2]
            if flow[3] != order[at]:
                continue
            trail = (flow,) + ways[order[at]]
            if source not in goals:
                trails.setdefault(kind_in(kinds, source), trail)
            elif source not in ways:
                ways[source] = trail
                order.append(source)
        at += 1
    return trails


def _filled_places(program, told):
    """The places with told kinds where theirs are left out."""
    return tuple([("place", place[1], _filled(place[2], told, ("", place[1])), place[3]) for place in program.places])


def _filled_funs(program, told):
    """The functions with told kinds where theirs are left out."""
    return tuple([_filled_fun(fun, told) for fun in program.funs])


def _filled_fun(fun, told):
    name = fun[1]
    params = [(form, param, _filled(kind, told, (name, param))) for form, param, kind in fun[2]]
    rows = [_filled_row(name, row, told) for row in fun[4]]
    return ("fun", name, tuple(params), _filled(fun[3], told, (name, RESULT)), tuple(rows))


def _filled_row(fun, row, told):
    # Let rows never stand inside other rows.
    if row[0] != "let":
        return row
    return ("let", row[1], _filled(row[2], told, (fun, row[1])), row[3])


def _filled(kind, told, holder):
    """A kind, or the one that is told for its holder if it is left out."""
    return told.get(holder) if kind is None else kind
