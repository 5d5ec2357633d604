"""Runs of a program, step by step and at once."""

from quickways.errors import NoStep, TooLarge
from quickways.machines import Machine
from quickways.mixtures import all_mixtures
from quickways.names import task_text
from quickways.weavings import filled_picks, next_picks


class Run:
    """A run of a program, which can go back."""

    def __init__(self, program, mixture, *, answers=(), weaving=()):
        self.program = program
        self.mixture = mixture.twin()
        self.answers = tuple(answers)
        self.weaving = tuple(weaving)
        self.telling = None
        # A run has no choice, so the machine never goes back: what it has done is only looked at again.
        self._machine = Machine(program, self.mixture, self.answers, self.weaving)
        self._done = []
        self._undone = []

    def step(self):
        """Takes a step and returns its record."""
        if self.telling is not None:
            raise NoStep("step")
        if len(self._done) == len(self._machine.records):
            self._machine.step()
        self._undone = []
        self._go_on(self._machine.records[len(self._done)])
        return self._done[-1]

    def back(self):
        """Goes back and returns the record of the step that was the last one."""
        if not self._done:
            raise NoStep("back")
        self._undone.append(self._done.pop())
        self.telling = None
        return self._undone[-1]

    def again(self):
        """Does again the step that was taken back last, and returns its record."""
        if not self._undone:
            raise NoStep("again")
        self._go_on(self._undone.pop())
        return self._done[-1]

    def finish(self):
        """Takes steps until the end and returns the telling."""
        while self.telling is None:
            self.step()
        return self.telling

    def __len__(self):
        return len(self._done)

    def __iter__(self):
        return iter(self._done)

    @property
    def trace(self):
        """The records of the steps done."""
        return tuple(self._done)

    @property
    def ended(self):
        """Whether the run is at its end."""
        return self.telling is not None

    def ready(self):
        """The texts of the tasks that can take a step."""
        ready, many, rooms = self._machine.sights[len(self._done)]
        return [task_text(path) for path in ready] if self.telling is None else []

    def loan_deeds(self):
        """The loan deeds so far."""
        ready, many, rooms = self._machine.sights[len(self._done)]
        return self._machine.store.deeds[:many]

    def rooms(self):
        """The rooms: the most casts of a view, values for loans and deeds on stacks that there were."""
        ready, many, most = self._machine.sights[len(self._done)]
        return most

    def twin(self):
        """A new run that has taken the same steps; what was taken back cannot be done again in it."""
        made = Run(self.program, self.mixture, answers=self.answers, weaving=self.weaving)
        while len(made) < len(self._done):
            made.step()
        return made

    def options(self):
        """For each step done how many tasks a weaving could choose for it."""
        sights = self._machine.sights[:len(self._done)]
        return [len(ready) if self.mixture["tasks"] == "plain" else 1 for ready, many, rooms in sights]

    def _go_on(self, record):
        """Notes a step that is done."""
        self._done.append(record)
        if len(self._done) == len(self._machine.records):
            self.telling = self._machine.telling


def tell(program, mixture, *, answers=(), weaving=()):
    """The telling of a run."""
    return Run(program, mixture, answers=answers, weaving=weaving).finish()


def tell_classes(program, *, answers=(), weaving=()):
    """The classes of the numbers of the mixtures that tell the same."""
    classes = {}
    for mixture in all_mixtures():
        telling = tell(program, mixture, answers=answers, weaving=weaving)
        classes.setdefault(telling, []).append(mixture.number)
    return tuple([tuple(numbers) for numbers in classes.values()])


def weavings(program, mixture, *, answers=(), most=200):
    """Yields the picks and the telling of each run that there is with some weaving."""
    given = tuple(answers)
    ways = mixture.twin()
    count = 0
    picks = []
    while picks is not None:
        if count == most:
            raise TooLarge(most)
        run = Run(program, ways, answers=given, weaving=picks)
        telling = run.finish()
        options = run.options()
        yield tuple(filled_picks(picks, len(options))), telling
        count += 1
        picks = next_picks(picks, options)
