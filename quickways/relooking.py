"""Programs that are edited, with the looks at their functions."""

from quickways.edits import edited
from quickways.errors import NoStep
from quickways.looks import inputs_at, look_at
from quickways.reach import Reach
from quickways.rules import RULES
from quickways.stillness import still_faults
from quickways.verdicts import faults


class Kept:
    """A program as it is now, and a look at each of its functions."""

    def __init__(self, program):
        self.program = program
        self.looks = 0
        # The inputs of each function, and the look at it with these inputs, by its name.
        self._inputs = {}
        self._looks_kept = {}
        # The programs that the edits which can be taken back have changed.
        self._earlier = []
        self._look_again(program)

    def put(self, edit):
        """Does an edit and returns the names of the functions that were looked at again."""
        made = edited(self.program, edit)
        self._earlier.append(self.program)
        return self._look_again(made)

    def undo(self):
        """Takes back the last edit and returns the names of the functions that were looked at again."""
        if not self._earlier:
            raise NoStep("undo")
        return self._look_again(self._earlier.pop())

    def faults(self):
        """All faults of the program."""
        found = [fault for look in self._looks_kept.values() for fault in look]
        return [fault for rule in RULES for fault in found if fault[0] == rule] + still_faults(self.program)

    def preview(self, *edits):
        """The faults that the program would have after some edits, one after the other."""
        made = self.program
        for edit in edits:
            made = edited(made, edit)
        return faults(made)

    def __len__(self):
        return len(self._earlier)

    def _look_again(self, program):
        """Goes on with a program and looks at the functions whose inputs have changed; returns their names."""
        self.program = program
        reach = Reach(program)
        changed = []
        for fun in program.funs:
            told = inputs_at(reach, fun)
            if self._inputs.get(fun[1]) != told:
                self._inputs[fun[1]] = told
                self._looks_kept[fun[1]] = look_at(reach, fun)
                changed.append(fun[1])
        self.looks += len(changed)
        return tuple(changed)
