"""What the lines of a text open and close, and the trees that come of them."""

from quickways.errors import BadText
from quickways.lines import read_fun_line, read_place_line, read_row_line, read_watch_line

ROW_DEPTH = 3
OPENING = ("fun", "loop", "if")


class Outline:
    """What the lines hold that were put behind each other."""

    def __init__(self):
        # For each line a place, a watch, a function or row without rows inside it, ("else",) or ("end",).
        self._items = []
        # The words of what is open; an if row is `else` behind its line `else`.
        self.opened = []

    def add_line(self, text, line):
        """Puts a line behind the others; raises BadText with its number if it does not fit."""
        item = self._row_item(text, line) if self.opened else self._top_item(text, line)
        self._items.append(item)
        if item[0] in OPENING:
            self.opened.append(item[0])
        elif item[0] == "else":
            self.opened[-1] = "else"
        elif item[0] == "end":
            self.opened.pop()

    def trees(self):
        """The tuples of the places, the functions and the watches; nothing may be open."""
        made = {"place": [], "fun": [], "watch": []}
        # What is open, each with the rows lists that it has so far.
        opened = []
        for item in self._items:
            if item[0] in OPENING:
                opened.append((item, [[]]))
                continue
            if item[0] == "else":
                opened[-1][1].append([])
                continue
            done = _closed(opened.pop()) if item[0] == "end" else item
            goal = opened[-1][1][-1] if opened else made[done[0]]
            goal.append(done)
        return tuple(made["place"]), tuple(made["fun"]), tuple(made["watch"])

    def _top_item(self, text, line):
        """What a line holds if nothing is open."""
        words = [item[0] for item in self._items]
        if text.startswith("watch "):
            return read_watch_line(text, line)
        if text.startswith("fun ") and "watch" not in words:
            return read_fun_line(text, line)
        if text.startswith("place ") and "watch" not in words and "fun" not in words:
            return read_place_line(text, line)
        raise BadText(line)

    def _row_item(self, text, line):
        """What a line holds if something is open."""
        body = text.lstrip(" ")
        inner = 2 * len(self.opened)
        spaces = len(text) - len(body)
        if spaces == inner - 2 and body in self._closing_words():
            return (body,)
        if spaces == inner and len(self.opened) <= ROW_DEPTH:
            return read_row_line(body, line)
        raise BadText(line)

    def _closing_words(self):
        """Which of the lines `else` and `end` can come next."""
        if self._items[-1][0] == "else":
            return ()
        if self.opened[-1] == "if" and len(self.opened) <= ROW_DEPTH:
            return ("else", "end")
        return ("end",)


def _closed(opened):
    """The function or row of what is open, with its rows lists."""
    item, lists = opened
    rows = tuple([tuple(listed) for listed in lists])
    if item[0] == "if":
        return item[:2] + (rows + ((),))[:2]
    return item[:-1] + rows
