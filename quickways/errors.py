"""All errors of the package."""


class QuickError(ValueError):
    """The base class of all errors of the package."""


class BadKind(QuickError):
    """A string that is no kind."""

    def __init__(self, kind):
        super().__init__(f"no kind: {kind}")
        self.kind = kind


class BadProgram(QuickError):
    """A program that breaks a condition."""

    def __init__(self, reason, where):
        super().__init__(f"the condition {reason} is broken: {where}")
        self.reason = reason
        self.where = where


class NoRow(QuickError):
    """A function, a row or a name that a program does not have."""

    def __init__(self, where):
        super().__init__(f"not in the program: {where}")
        self.where = where


class BadText(QuickError):
    """A text that cannot be read; lines are counted from 1."""

    def __init__(self, line):
        super().__init__(f"line {line} cannot be read")
        self.line = line


class TooLarge(QuickError):
    """More of something than there may be."""

    def __init__(self, most):
        super().__init__(f"more than {most}")
        self.most = most


class BadDeed(QuickError):
    """A loan deed that does not fit."""

    def __init__(self, at):
        super().__init__(f"the deed of index {at} does not fit")
        self.at = at


class BadWish(QuickError):
    """A wish that has not the form of one."""

    def __init__(self, state):
        super().__init__(f"the wish is wrong at {state}")
        self.state = state


class BadRule(QuickError):
    """A string that is no rule, or no term of books."""

    def __init__(self, rule):
        super().__init__(f"no rule: {rule}")
        self.rule = rule


class BadPart(QuickError):
    """A string that is no part."""

    def __init__(self, part):
        super().__init__(f"no part: {part}")
        self.part = part


class BadWay(QuickError):
    """A string that is no way, or a number that is that of no mixture."""

    def __init__(self, way):
        super().__init__(f"no way: {way}")
        self.way = way


class NoStep(QuickError):
    """A step that cannot be taken, taken back or done again."""

    def __init__(self, word):
        super().__init__(f"there is no step to {word}")
        self.word = word


class NotLet(QuickError):
    """A program that books do not let."""

    def __init__(self, rule, where):
        super().__init__(f"a fault of {rule}: {where}")
        self.rule = rule
        self.where = where


class NotParted(QuickError):
    """Two mixtures that tell the same where they should not."""

    def __init__(self, index):
        super().__init__(f"nothing is parted: {index}")
        self.index = index


class BadEdit(QuickError):
    """An edit after which a condition would be broken."""

    def __init__(self, where):
        super().__init__(f"the edit cannot be done: {where}")
        self.where = where


class BadOrder(QuickError):
    """An order that is none, or that cannot be done."""

    def __init__(self, line):
        super().__init__(f"the order of line {line} cannot be done")
        self.line = line


class NoEntry(QuickError):
    """A name for which nothing is kept, or which is used already."""

    def __init__(self, name):
        super().__init__(f"no entry for {name}")
        self.name = name


class RowFails(QuickError):
    """Something in a row or a deed that fails; a run catches it and never raises it."""

    def __init__(self, label):
        super().__init__(f"failed: {label}")
        self.label = label
