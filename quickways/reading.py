"""Reading programs and rows line by line."""

from quickways.errors import BadText
from quickways.outlines import Outline
from quickways.programs import Program


class Reader:
    """The lines of a text that were taken so far."""

    def __init__(self):
        self._lines = []
        self._outline = Outline()

    def take(self, text):
        """Takes the next line."""
        self._outline.add_line(text, len(self._lines) + 1)
        self._lines.append(text)

    def finish(self):
        """The program of the lines that were taken."""
        if self._outline.opened:
            raise BadText(len(self._lines) + 1)
        places, funs, watches = self._outline.trees()
        return Program(places, funs, watches)

    @property
    def depth(self):
        """The number of things that are open."""
        return len(self._outline.opened)

    def __len__(self):
        return len(self._lines)

    def __iter__(self):
        return iter(self._lines)


def read_program(text):
    """The program of a text."""
    reader = Reader()
    for line in text.split("\n"):
        reader.take(line)
    return reader.finish()


def read_row(lines):
    """The row of its lines alone."""
    outline = Outline()
    # The row is read as the only row of a function.
    outline.add_line("fun main()", 0)
    for at, text in enumerate(lines):
        if at > 0 and len(outline.opened) == 1:
            raise BadText(at + 1)
        outline.add_line(f"  {text}", at + 1)
    if len(lines) == 0 or len(outline.opened) > 1:
        raise BadText(len(lines) + 1)
    outline.add_line("end", 0)
    places, funs, watches = outline.trees()
    return funs[0][4][0]
