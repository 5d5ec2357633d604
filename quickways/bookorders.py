"""The orders for books, each in a function of its own: it is given a desk and the items behind the word."""

from quickways.books import Books
from quickways.openness import open_parts
from quickways.orderlines import read_order
from quickways.reading import read_row
from quickways.runtext import read_number
from quickways.writing import write_program

FORMS = (
    ("keep", 0, None), ("ease", 0, None), ("verdict", 0, 0), ("open", 0, 0), ("show", 0, 0), ("put", 3, None),
    ("undo", 0, 0),
)


def _give_keep(desk, items):
    desk.books |= Books(*items)
    return _verdict_lines(desk)


def _give_ease(desk, items):
    desk.books -= Books(*items)
    return _verdict_lines(desk)


def _give_verdict(desk, items):
    return _verdict_lines(desk)


def _give_open(desk, items):
    return list(open_parts(desk.books))


def _give_show(desk, items):
    return write_program(desk.kept.program).split("\n")


def _give_put(desk, items):
    row = read_row([" ".join(items[2:])])
    number = read_number(items[1], 1)
    return list(desk.put((items[0], number, row)))


def _give_undo(desk, items):
    return list(desk.undo())


ACTIONS = {
    "keep": _give_keep, "ease": _give_ease, "verdict": _give_verdict, "open": _give_open, "show": _give_show,
    "put": _give_put, "undo": _give_undo,
}


def give_book_order(desk, line):
    """Does an order for books at a desk and returns the lines that it tells."""
    word, items = read_order(line, FORMS)
    action = ACTIONS[word]
    return action(desk, items)


def _verdict_lines(desk):
    """A line for each fault of the verdict on the program of a desk."""
    return [f"{rule} {where}" for rule, where in desk.verdict()]
