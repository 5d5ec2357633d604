"""The conditions of a program, each as a function.

Each tells the first thing that breaks its condition, or None if the condition holds."""

from quickways.errors import BadProgram
from quickways.kinds import KINDS, fits
from quickways.names import is_literal, is_name, label_of
from quickways.trees import called_fun, closes, depth_of, leaves, names_lent, names_read, names_set
from quickways.trees import numbered_lists, numbered_rows, own_names_of, row_args, row_exprs
from quickways.weights import fun_weights

MOST_PLACES = 4
MOST_FUNS = 6
MOST_WATCHES = 2
MOST_PARAMS = 3
MOST_ROWS = 16
MOST_DEPTH = 3
MOST_COUNT = 3
MOST_STATES = 6
STATE_NUMBERS = 6


def check_program(places, funs, watches, most):
    """Raises BadProgram for the first condition that does not hold; returns the weight."""
    _demand("many", _many_broken(places, funs, watches))
    _demand("name", _name_broken(places, funs))
    _demand("twice", _twice_broken(places, funs))
    _demand("main", _main_broken(funs))
    _demand("value", _value_broken(places, funs))
    _demand("kind", _kind_broken(places, funs))
    _demand("let", _let_broken(funs))
    _demand("unknown", _unknown_broken(places, funs, watches))
    _demand("call", _call_broken(funs))
    _demand("pair", _pair_broken(funs))
    _demand("close", _close_broken(funs))
    _demand("unused", _unused_broken(funs))
    _demand("wish", _wish_broken(watches))
    weight = fun_weights(funs)[funs[0][1]]
    if weight > most:
        raise BadProgram("weight", "")
    return weight


def _demand(reason, where):
    if where is not None:
        raise BadProgram(reason, where)


def _first_row(funs, is_broken):
    """The label of the first row that breaks a condition, as `is_broken(fun, depth, row)` tells."""
    for fun in funs:
        for number, depth, row in numbered_rows(fun):
            if is_broken(fun, depth, row):
                return label_of(fun[1], number)
    return None


def _many_broken(places, funs, watches):
    if len(places) > MOST_PLACES or not 1 <= len(funs) <= MOST_FUNS or len(watches) > MOST_WATCHES:
        return ""
    for fun in funs:
        if len(fun[2]) > MOST_PARAMS or len(numbered_rows(fun)) > MOST_ROWS:
            return fun[1]
        where = _first_row((fun,), _is_deep)
        if where is not None:
            return where
    return None


def _is_deep(fun, depth, row):
    return depth > MOST_DEPTH or any([depth_of(expr) > MOST_DEPTH for expr in row_exprs(row)])


def _name_broken(places, funs):
    told = [place[1] for place in places]
    for fun in funs:
        told.append(fun[1])
        told.extend(own_names_of(fun))
    for name in told:
        if not is_name(name):
            return name
    return None


def _twice_broken(places, funs):
    # A repeated name of places or functions is found with the first function already.
    shared = [place[1] for place in places] + [fun[1] for fun in funs]
    for fun in funs:
        name = _first_repeated(shared + own_names_of(fun))
        if name is not None:
            return name
    return None


def _first_repeated(told):
    """The first name of a list that stands there a second time, or None."""
    seen = {}
    for name in told:
        if name in seen:
            return name
        seen[name] = True
    return None


def _main_broken(funs):
    name = funs[0][1]
    if name != "main" or len(funs[0][2]) > 0:
        return name
    return None


def _value_broken(places, funs):
    for place in places:
        if not is_literal(place[3]):
            return place[1]
    return _first_row(funs, _has_bad_value)


def _has_bad_value(fun, depth, row):
    if row[0] == "loop":
        return not 1 <= row[1] <= MOST_COUNT
    for expr in row_exprs(row):
        if any([leaf[0] == "lit" and not is_literal(leaf[1]) for leaf in leaves(expr)]):
            return True
    return False


def _kind_broken(places, funs):
    for place in places:
        if place[2] is not None and (place[2] not in KINDS or not fits(place[3], place[2])):
            return place[1]
    for fun in funs:
        told = [param[2] for param in fun[2]] + [fun[3]]
        if any([kind is not None and kind not in KINDS for kind in told]):
            return fun[1]
        where = _first_row((fun,), _tells_no_kind)
        if where is not None:
            return where
    return None


def _tells_no_kind(fun, depth, row):
    if row[0] == "let":
        return row[2] is not None and row[2] not in KINDS
    return row[0] == "narrow" and row[2] not in KINDS


def _let_broken(funs):
    return _first_row(funs, _is_inner_let)


def _is_inner_let(fun, depth, row):
    return row[0] == "let" and depth > 1


def _unknown_broken(places, funs, watches):
    names = [place[1] for place in places]
    for fun in funs:
        where = _unknown_in(names, fun)
        if where is not None:
            return where
    for watch in watches:
        if watch[1] not in names:
            return watch[1]
    return None


def _unknown_in(names, fun):
    """The label of the first row of a function with a name that it cannot use so."""
    narrowable = [param[1] for param in fun[2] if param[0] == "lent"]
    usable = names + [param[1] for param in fun[2]]
    for number, depth, row in numbered_rows(fun):
        wrong = [name for name in names_read(row) + names_set(row) if name not in usable]
        wrong.extend([name for name in names_lent(row) if name not in names + narrowable])
        if wrong or (row[0] == "narrow" and row[1] not in narrowable):
            return label_of(fun[1], number)
        if row[0] == "let":
            usable.append(row[1])
    return None


def _call_broken(funs):
    for at, fun in enumerate(funs):
        later = {other[1]: other[2] for other in funs[at + 1:]}
        for number, depth, row in numbered_rows(fun):
            if called_fun(row) is not None and not _is_good_call(row, later):
                return label_of(fun[1], number)
    return None


def _is_good_call(row, later):
    """Whether a row calls one of the functions with these parameters as it has to be called."""
    if row[2] not in later:
        return False
    return [param[0] for param in later[row[2]]] == [arg[0] for arg in row_args(row)]


def _pair_broken(funs):
    for fun in funs:
        broken = []
        for listed in numbered_lists(fun[4]):
            broken.extend(_unpaired(listed))
        if broken:
            return label_of(fun[1], min(broken))
    return None


def _unpaired(listed):
    """The numbers of the start and wait rows of one rows list that have no partner."""
    broken = []
    started = {}
    for at, (number, row) in enumerate(listed):
        if row[0] == "start":
            started[row[1]] = True
            if _waits_for(listed[at:], row[1]) != 1:
                broken.append(number)
        # A second wait row for one task needs no look: its start row is broken and stands in front of it.
        if row[0] == "wait" and row[2] not in started:
            broken.append(number)
    return broken


def _waits_for(listed, task):
    """How many rows of a rows list wait for a task."""
    return len([number for number, row in listed if row[0] == "wait" and row[2] == task])


def _close_broken(funs):
    for fun in funs:
        broken = []
        for listed in numbered_lists(fun[4]):
            broken.extend([number for number, row in listed[:-1] if closes((row,))])
            broken.extend([number for number, row in listed if row[0] == "loop" and closes(row[2])])
        if broken:
            return label_of(fun[1], min(broken))
        if not closes(fun[4]):
            return fun[1]
    return None


def _unused_broken(funs):
    used = {}
    for fun in funs:
        for number, depth, row in numbered_rows(fun):
            used[called_fun(row)] = True
    for fun in funs[1:]:
        if fun[1] not in used:
            return fun[1]
    return None


def _wish_broken(watches):
    for watch in watches:
        if not _is_wish(watch[2][1], watch[2][2]):
            return watch[1]
    return None


def _is_wish(table, good):
    states = range(len(table))
    if not 1 <= len(table) <= MOST_STATES:
        return False
    for state in table:
        if len(state) != STATE_NUMBERS or any([number not in states for number in state]):
            return False
    if any([number not in states for number in good]):
        return False
    return list(good) == sorted(set(good))
