"""Desks at which a program is run."""

from quickways.mixtures import Mixture
from quickways.runorders import give_run_order
from quickways.runs import Run


class RunDesk:
    """A run of a program, which orders take on and begin anew."""

    def __init__(self, program):
        self.run = Run(program, Mixture())

    def begin(self, *, mixture=None, answers=None, weaving=None):
        """Begins anew; None means what the run had."""
        old = self.run
        self.run = Run(old.program, old.mixture if mixture is None else mixture,
                       answers=old.answers if answers is None else answers,
                       weaving=old.weaving if weaving is None else weaving)

    def order(self, line):
        """Does an order for runs and returns the lines that it tells."""
        return give_run_order(self, line)
