"""The orders for runs, each in a function of its own: it is given a desk and the items behind the word."""

from quickways.mixtures import Mixture
from quickways.names import read_value
from quickways.orderlines import read_order
from quickways.partings import parting
from quickways.runtext import line_text, read_number, record_text, telling_lines

FORMS = (
    ("ways", 0, None), ("turn", 1, 1), ("answers", 0, None), ("weaving", 0, None), ("step", 0, 0), ("back", 0, 0),
    ("again", 0, 0), ("finish", 0, 0), ("part", 1, 1),
)


def _give_ways(desk, items):
    desk.begin(mixture=Mixture.read(" ".join(items)))
    return []


def _give_turn(desk, items):
    desk.begin(mixture=desk.run.mixture ^ items[0])
    return []


def _give_answers(desk, items):
    desk.begin(answers=[read_value(item) for item in items])
    return []


def _give_weaving(desk, items):
    desk.begin(weaving=[read_number(item, 1) for item in items])
    return []


def _give_step(desk, items):
    return [record_text(desk.run.step())]


def _give_back(desk, items):
    return [record_text(desk.run.back())]


def _give_again(desk, items):
    return [record_text(desk.run.again())]


def _give_finish(desk, items):
    return telling_lines(desk.run.finish())


def _give_part(desk, items):
    run = desk.run
    told = parting(run.program, run.mixture, run.mixture ^ items[0], answers=run.answers, weaving=run.weaving)
    if told is None:
        return ["same"]
    index, line, other = told
    return [str(index), line_text(line), line_text(other)]


ACTIONS = {
    "ways": _give_ways, "turn": _give_turn, "answers": _give_answers, "weaving": _give_weaving, "step": _give_step,
    "back": _give_back, "again": _give_again, "finish": _give_finish, "part": _give_part,
}


def give_run_order(desk, line):
    """Does an order for runs at a desk and returns the lines that it tells."""
    word, items = read_order(line, FORMS)
    action = ACTIONS[word]
    return action(desk, items)


def is_run_order(line):
    """Whether the first item of a line is that of an order for runs."""
    return line.split(" ")[0] in ACTIONS
