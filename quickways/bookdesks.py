"""Desks at which a program is edited and judged under books."""

from quickways.bookorders import give_book_order
from quickways.books import Books
from quickways.relooking import Kept


class BookDesk:
    """A program that is kept, and books."""

    def __init__(self, program):
        self.kept = Kept(program)
        self.books = Books.full()

    def put(self, edit):
        """Does an edit of the program and returns the names of the functions that were looked at again."""
        return self.kept.put(edit)

    def undo(self):
        """Takes back the last edit and returns the names of the functions that were looked at again."""
        return self.kept.undo()

    def verdict(self):
        """The verdict on the program under the books."""
        return [fault for fault in self.kept.faults() if fault[0] in self.books]

    def order(self, line):
        """Does an order for books and returns the lines that it tells."""
        return give_book_order(self, line)
