"""Desks at which a program is run, edited and judged, and trials of what is done at them."""

from quickways.bookdesks import BookDesk
from quickways.bookorders import give_book_order
from quickways.books import Books
from quickways.errors import BadOrder, BadText, QuickError
from quickways.mixtures import Mixture
from quickways.reading import read_program
from quickways.relooking import Kept
from quickways.rundesks import RunDesk
from quickways.runorders import give_run_order, is_run_order
from quickways.runs import Run
from quickways.runtext import read_run, write_run
from quickways.writing import write_program

# In a saved text the line of the books and the four lines of the run stand in front of the program.
FRONT_LINES = 5


class Held:
    """What a desk has when the block of a trial is entered."""

    def __init__(self, desk, outer):
        self.kept = desk.kept
        self.books = desk.books
        self.run = desk.run
        # What is held for a block of the same trial around this one, or None.
        self.outer = outer


class Trial:
    """A with statement in which a desk works with copies."""

    def __init__(self, desk):
        self._desk = desk
        self._held = None

    def __enter__(self):
        desk = self._desk
        self._held = Held(desk, self._held)
        desk.kept = Kept(desk.kept.program)
        desk.books = desk.books.twin()
        desk.run = desk.run.twin()
        return desk

    def __exit__(self, kind, value, trace):
        desk = self._desk
        desk.kept = self._held.kept
        desk.books = self._held.books
        desk.run = self._held.run
        self._held = self._held.outer


class Desk(RunDesk, BookDesk):
    """A desk for runs and for books of one program."""

    def __init__(self, program):
        RunDesk.__init__(self, program)
        BookDesk.__init__(self, program)

    @classmethod
    def read(cls, text):
        """The desk of a saved text."""
        lines = text.split("\n")
        books = _read_books(lines[0])
        program = _read_saved_program(lines)
        run = _read_saved_run(program, lines)
        made = cls(program)
        made.books = books
        made.run = run
        return made

    def save(self):
        """The saved text of the desk."""
        return "\n".join([_books_line(self.books), write_run(self.run), write_program(self.kept.program)])

    def load(self, program, *, answers=(), weaving=()):
        """Goes on with another program, in which no edit was done, and a run of it with every part plain."""
        self.kept = Kept(program)
        self.run = Run(program, Mixture(), answers=answers, weaving=weaving)

    def put(self, edit):
        """Does an edit of the program and begins anew; returns the names of the functions looked at again."""
        names = super().put(edit)
        self._begin_edited()
        return names

    def undo(self):
        """Takes back the last edit and begins anew; returns the names of the functions looked at again."""
        names = super().undo()
        self._begin_edited()
        return names

    def order(self, line):
        """Does an order and returns the lines that it tells."""
        if is_run_order(line):
            return give_run_order(self, line)
        return give_book_order(self, line)

    def rehearse(self, *lines):
        """Does orders in a trial and returns all lines that they tell."""
        told = []
        with Trial(self) as desk:
            for at, line in enumerate(lines):
                told.extend(_rehearsed(desk, at + 1, line))
        return told

    def _begin_edited(self):
        """Begins anew with the program as it is kept now."""
        old = self.run
        self.run = Run(self.kept.program, old.mixture, answers=old.answers, weaving=old.weaving)


def _rehearsed(desk, number, line):
    """The lines that the order of a number tells; raises BadOrder with this number if it cannot be done."""
    try:
        return desk.order(line)
    except QuickError as why:
        raise BadOrder(number) from why


def _books_line(books):
    """The first line of a saved text."""
    return " ".join(["books"] + list(books))


def _read_books(line):
    """The books of the first line of a saved text."""
    books = Books.read(line.removeprefix("books").removeprefix(" "))
    if _books_line(books) != line:
        raise BadText(1)
    return books


def _read_saved_program(lines):
    """The program of a saved text."""
    try:
        return read_program("\n".join(lines[FRONT_LINES:]))
    except BadText as why:
        raise BadText(why.line + FRONT_LINES) from None


def _read_saved_run(program, lines):
    """The run of a saved text."""
    try:
        return read_run(program, "\n".join(lines[1:FRONT_LINES]))
    except BadText as why:
        raise BadText(why.line + 1) from None
