"""The tasks of a run and their frames."""

from quickways.names import label_of, task_text
from quickways.trees import inner_listed, listed_rows


class Frame:
    """One call of a function that has not ended."""

    def __init__(self, key, function):
        self.key = key
        self.function = function
        # The values of the worth parameters and locals, and the views of the lent parameters.
        self.held = {}
        self.views = {}
        # The rows that are still to be done, the next one at the end.
        self.agenda = listed_rows(function[4], 1)[::-1]
        # The call row whose frame has not ended yet.
        self.calling = None
        # The birth numbers of the children that are not waited for, and those of the names of tasks.
        self.children = []
        self.births = {}
        self.outcome = None
        self.position = 0
        # The deeds that are due and not done; None as long as it was not asked which ones are due.
        self.deeds = None
        self.unroll()

    def row_label(self, number):
        """The label of a row of the function."""
        return label_of(self.function[1], number)

    def loan_key(self, param):
        """The key of the loan of a lent parameter."""
        return f"{self.key}.{param}"

    def spot(self, name):
        """The spot for which a name of a place or of a lent parameter stands."""
        return self.loan_key(name) if name in self.views else name

    def leave(self, outcome, number):
        """Gets the outcome at a row of the function."""
        self.outcome = outcome
        self.position = number

    def go_into(self, number, row, index):
        """Goes on with one of the rows lists inside a row."""
        self.agenda.extend(inner_listed(number, row)[index][::-1])

    def unroll(self):
        """Puts the rows of loop rows in their place until the next row takes a step."""
        while self.agenda and self.agenda[-1][1][0] == "loop":
            number, row = self.agenda.pop()
            for _ in range(row[1]):
                self.go_into(number, row, 0)


class Task:
    """A task: a stack of frames, and what it has printed."""

    def __init__(self, path):
        self.path = path
        self.text = task_text(path)
        self.frames = []
        self.prints = []
        self.outcome = None
        self._born = 0
        self._made = 0

    def cell(self):
        """The written form of the cell of the task."""
        return f"task {self.text}"

    def next_birth(self):
        """The birth number of a new child."""
        self._born += 1
        return self._born

    def push(self, function):
        """Puts a new frame of a function on the stack and returns it."""
        frame = Frame(f"{self.text}:{self._made}", function)
        self._made += 1
        self.frames.append(frame)
        return frame

    def awaited(self):
        """The path of the child that has to be over before the next step, or None."""
        if not self.frames:
            return None
        frame = self.frames[-1]
        if frame.outcome is not None:
            return self.path + (frame.children[0],) if frame.children else None
        row = frame.agenda[-1][1]
        return self.path + (frame.births[row[2]],) if row[0] == "wait" else None
