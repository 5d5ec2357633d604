"""The machine of a run: it takes the steps and keeps what can be seen behind each of them."""

from quickways.castways import MiddleCasts, RowCasts
from quickways.cells import AddressLoans, CopyLoans
from quickways.charts import ChartExits
from quickways.errors import RowFails
from quickways.evaluating import Names
from quickways.frames import Task
from quickways.picking import WaitTasks, WovenTasks
from quickways.piles import StackExits
from quickways.rowsteps import do_row
from quickways.stores import Store
from quickways.watching import ChangeWatch, EveryWatch

FITTING_GUARDS = {"gives": ("done", "always"), "blames": ("fail", "always")}


class Machine:
    """A run that only goes forward."""

    def __init__(self, program, mixture, answers, weaving):
        self.program = program
        self.casts = RowCasts() if mixture["casts"] == "plain" else MiddleCasts()
        self.exits = StackExits() if mixture["exits"] == "plain" else ChartExits()
        # Whether a defer row evaluates the expression of its deed.
        self.catches = mixture["exits"] == "plain"
        self._picking = WovenTasks(weaving) if mixture["tasks"] == "plain" else WaitTasks()
        self._watching = _watching_of(program, mixture)
        self.store = Store(_loans_of(program, mixture), self._watching)
        self.names = Names(program, self.store)
        self._answers = answers
        self._asked = 0
        self.tasks = {(): Task(())}
        self.tasks[()].push(program.funs[0])
        # A record for each step; at the beginning and behind each step what `_sight` tells.
        self.records = []
        self.sights = [self._sight((0, 0, 0))]
        self.telling = None

    def step(self):
        """Takes a step."""
        ready, many, rooms = self.sights[-1]
        task = self.tasks[self._picking.pick(len(self.records), list(ready), self._waits())]
        function = task.frames[-1].function
        self.store.write_cell(task.cell())
        if task.frames[-1].outcome is None:
            action, number, raised = self._row_step(task)
        else:
            action, number, raised = self._way_out(task)
        reads, writes = self.store.take_cells()
        self.records.append((task.text, action, function[1], number, raised, reads, writes))
        self.sights.append(self._sight(rooms))
        if self.tasks[()].outcome is not None:
            self.telling = self._told()

    def next_answer(self):
        """The next answer, 0 behind the last one."""
        self._asked += 1
        return self._answers[self._asked - 1] if self._asked <= len(self._answers) else 0

    def take_child(self, task, birth):
        """Takes over the prints of a child of a task that is over, and returns its outcome."""
        child = self.tasks.pop(task.path + (birth,))
        self.store.write_cell(child.cell())
        task.prints.extend(child.prints)
        return child.outcome

    def _row_step(self, task):
        """Does the next row; returns the action, the number and the label that failed."""
        frame = task.frames[-1]
        number, row = frame.agenda.pop()
        raised = ""
        try:
            do_row(self, task, number, row)
        except RowFails as why:
            raised = why.label
            frame.leave(("blames", raised), number)
        frame.unroll()
        return "row", number, raised

    def _way_out(self, task):
        """Does one thing of the way out; returns the action, the number and the label that failed."""
        frame = task.frames[-1]
        if frame.children:
            return "gather", self._gather(task, frame), ""
        if frame.deeds is None:
            frame.deeds = self.exits.due(frame.key, frame.function, frame.position)
        while frame.deeds:
            number, guard, deed, caught = frame.deeds.pop(0)
            if guard in FITTING_GUARDS[frame.outcome[0]]:
                return "deed", number, self._do_deed(task, frame, number, deed, caught)
        return "end", 0, self._end(task, frame)

    def _gather(self, task, frame):
        """Takes the first child that was not waited for; returns its birth number."""
        birth = frame.children.pop(0)
        outcome = self.take_child(task, birth)
        if outcome[0] == "blames" and frame.outcome[0] == "gives":
            frame.outcome = outcome
        return birth

    def _do_deed(self, task, frame, number, deed, caught):
        """Does a deed; returns the label that failed."""
        label = frame.row_label(number)
        try:
            value = caught[0] if caught else self.names.value_of(frame, deed[-1], label)
            if deed[0] == "set":
                self.names.set_name(frame, deed[1], value, label)
            else:
                task.prints.append(value)
        except RowFails as why:
            if frame.outcome[0] == "gives":
                frame.outcome = ("blames", why.label)
            return why.label
        return ""

    def _end(self, task, frame):
        """Takes a frame off and hands its outcome on; returns the label that failed."""
        for form, param, kind in frame.function[2]:
            if form == "lent":
                self.store.end_loan(frame.loan_key(param))
        task.frames.pop()
        if task.frames:
            return self._hand_down(task.frames[-1], frame.outcome)
        task.outcome = frame.outcome
        return ""

    def _hand_down(self, frame, outcome):
        """Ends the call row of a frame with an outcome; returns the label that failed."""
        number, row = frame.calling
        if outcome[0] == "blames":
            frame.leave(outcome, number)
            return ""
        try:
            if row[1] is not None:
                self.names.set_name(frame, row[1], outcome[1], frame.row_label(number))
        except RowFails as why:
            frame.leave(("blames", why.label), number)
            return why.label
        return ""

    def _waits(self):
        """The path of the child for which each waiting task waits, by the path of the task."""
        waits = {}
        for path, task in self.tasks.items():
            child = task.awaited()
            if child is not None and self.tasks[child].outcome is None:
                waits[path] = child
        return waits

    def _sight(self, rooms):
        """The paths of the tasks that can take a step, the number of loan deeds, and the rooms."""
        waits = self._waits()
        ready = sorted([path for path in self.tasks if path not in waits and self.tasks[path].outcome is None])
        frames = [frame for task in self.tasks.values() for frame in task.frames]
        longest = max([len(view) for frame in frames for view in frame.views.values()], default=0)
        here = (longest, self.store.values_lent(), self.exits.room)
        most = tuple([max(room, old) for room, old in zip(here, rooms)])
        return tuple(ready), len(self.store.deeds), most

    def _told(self):
        """The telling."""
        first = self.tasks[()]
        lines = [("print", value) for value in first.prints]
        lines.append(first.outcome)
        lines.extend([("place", name, self.store.value_held(name)) for name in self.program.place_names()])
        lines.extend([("watch", place, report) for place, report in self._watching.words()])
        return tuple(lines)


def _loans_of(program, mixture):
    """The loans part of a run, at its beginning."""
    places = _first_values(program)
    return AddressLoans(places) if mixture["loans"] == "plain" else CopyLoans(places)


def _watching_of(program, mixture):
    """The watch part of a run, at its beginning."""
    places = _first_values(program)
    if mixture["watch"] == "plain":
        return EveryWatch(program.watches, places)
    return ChangeWatch(program.watches, places)


def _first_values(program):
    """The tuples (name, first value) of the places."""
    return [(place[1], place[3]) for place in program.places]
