"""The steps that do a row, each row in a function of its own.

`run` is the Machine, and the row is one of the topmost frame of the task."""

from quickways.frames import Task


def _do_let(run, task, number, row):
    frame = task.frames[-1]
    label = frame.row_label(number)
    run.names.set_name(frame, row[1], run.names.value_of(frame, row[3], label), label)


def _do_set(run, task, number, row):
    frame = task.frames[-1]
    label = frame.row_label(number)
    run.names.set_name(frame, row[1], run.names.value_of(frame, row[2], label), label)


def _do_print(run, task, number, row):
    frame = task.frames[-1]
    task.prints.append(run.names.value_of(frame, row[1], frame.row_label(number)))


def _do_ask(run, task, number, row):
    frame = task.frames[-1]
    run.store.write_cell("answers")
    run.names.set_name(frame, row[1], run.next_answer(), frame.row_label(number))


def _do_call(run, task, number, row):
    frame = task.frames[-1]
    worths = _worths(run, frame, number, row)
    _enter(run, frame, task, number, row, worths)
    frame.calling = (number, row)


def _do_start(run, task, number, row):
    frame = task.frames[-1]
    worths = _worths(run, frame, number, row)
    birth = task.next_birth()
    child = Task(task.path + (birth,))
    run.tasks[child.path] = child
    frame.children.append(birth)
    frame.births[row[1]] = birth
    run.store.write_cell(child.cell())
    _enter(run, frame, child, number, row, worths)


def _do_wait(run, task, number, row):
    frame = task.frames[-1]
    birth = frame.births[row[2]]
    frame.children.remove(birth)
    outcome = run.take_child(task, birth)
    if outcome[0] == "blames":
        frame.leave(outcome, number)
    elif row[1] is not None:
        run.names.set_name(frame, row[1], outcome[1], frame.row_label(number))


def _do_defer(run, task, number, row):
    frame = task.frames[-1]
    value = None
    if run.catches:
        value = run.names.value_of(frame, row[2][-1], frame.row_label(number))
    run.exits.note(frame.key, number, row[1], row[2], value)


def _do_narrow(run, task, number, row):
    frame = task.frames[-1]
    read, write = run.program.narrow_checks(frame.function[1], row[1], row[2])
    frame.views[row[1]] = frame.views[row[1]].lent(read, write, frame.row_label(number))


def _do_if(run, task, number, row):
    frame = task.frames[-1]
    value = run.names.fitting_value(frame, row[1], "bit", frame.row_label(number))
    frame.go_into(number, row, 1 - value)


def _do_return(run, task, number, row):
    frame = task.frames[-1]
    kind = run.program.result(frame.function[1])
    value = run.names.fitting_value(frame, row[1], kind, frame.row_label(number))
    frame.leave(("gives", value), number)


ACTIONS = {
    "let": _do_let, "set": _do_set, "print": _do_print, "ask": _do_ask, "call": _do_call, "start": _do_start,
    "wait": _do_wait, "defer": _do_defer, "narrow": _do_narrow, "if": _do_if, "return": _do_return,
}


def do_row(run, task, number, row):
    """Does a row; raises RowFails if something in it fails."""
    action = ACTIONS[row[0]]
    action(run, task, number, row)


def _worths(run, frame, number, row):
    """The values of the worth arguments of a call or start row, by the names of their parameters."""
    worths = {}
    for arg, param in zip(row[3], run.program.fun(row[2])[2]):
        if arg[0] == "worth":
            kind = run.program.kind(row[2], param[1])
            worths[param[1]] = run.names.fitting_value(frame, arg[1], kind, frame.row_label(number))
    return worths


def _enter(run, frame, task, number, row, worths):
    """Puts a frame of the called function on the stack of a task, and begins its loans."""
    function = run.program.fun(row[2])
    made = task.push(function)
    made.held.update(worths)
    for arg, param in zip(row[3], function[2]):
        if arg[0] == "lent":
            read, write = run.program.lend_checks(frame.function[1], arg[1], row[2], param[1])
            view = frame.views[arg[1]] if arg[1] in frame.views else run.casts.fresh()
            made.views[param[1]] = view.lent(read, write, frame.row_label(number))
            run.store.begin_loan(made.loan_key(param[1]), frame.spot(arg[1]))
