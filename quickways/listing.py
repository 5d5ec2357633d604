"""Listings: the text of a program with the numbers of its rows."""

from quickways.writing import fun_line, place_line, rows_lines, watch_line


def listing(program, *, width=60):
    """Yields the lines of the listing of a program."""
    for place in program.places:
        yield place_line(place)
    for fun in program.funs:
        yield fun_line(fun)
        number = 0
        for line, starts in rows_lines(fun[4], 1):
            number += 1 if starts else 0
            yield f"{line.ljust(width)}{number:>3}" if starts else line
        yield "end"
    for watch in program.watches:
        yield watch_line(watch)
