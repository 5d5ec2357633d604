"""The two ways of the tasks part."""

from quickways.weavings import pick_at


class WovenTasks:
    """The plain way: the numbers of a weaving choose among the tasks that can take a step."""

    def __init__(self, weaving):
        self.weaving = tuple(weaving)

    def pick(self, count, ready, waits):
        """The path of the task that takes the step of this number."""
        return ready[pick_at(self.weaving, count) % len(ready)]


class WaitTasks:
    """The quick way: a child takes its steps when it is waited for."""

    def pick(self, count, ready, waits):
        """The path of the task that takes the step: the end of the chain of waiting tasks."""
        path = ()
        while path in waits:
            path = waits[path]
        return path
