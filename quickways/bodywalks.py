"""Walks through the rows of a function, and the deeds that are due behind their beginnings."""

from quickways.charts import chart_of
from quickways.errors import TooLarge
from quickways.trees import closes, inner_listed, listed_rows, numbered_rows, row_at, stands_in
from quickways.weavings import next_picks, pick_at


def count_walks(fun):
    """The number of walks of a function."""
    ended, through = _count_in(fun[4])
    return ended + through


def walks(fun, *, most=200):
    """Yields the walks of a function in their order."""
    count = 0
    picks = []
    while picks is not None:
        if count == most:
            raise TooLarge(most)
        walk, choices = _picked_walk(fun, picks)
        yield walk
        count += 1
        picks = next_picks(choices, [2] * len(choices))


def stack_due(fun, met):
    """The numbers of the defer rows in a beginning in front of its last row, the last one first."""
    rows = [row_at(fun, number) for number in met]
    found = [number for number, row in zip(met[:-1], rows) if row[0] == "defer"]
    return tuple(found[::-1])


def chart_due(fun, number):
    """The entry of a row in the chart of a function."""
    row_at(fun, number)
    return chart_of(fun)[number - 1]


def visit_bounds(fun, number):
    """For each row how often at least and at most a walk visits the row of a number in front of it."""
    row_at(fun, number)
    bounds = {}
    _note_bounds(listed_rows(fun[4], 1), number, (0, 0), bounds)
    return tuple([bounds.get(at) for at, depth, row in numbered_rows(fun)])


def probe_walk(fun, number):
    """The walk that goes by a row if that can be done, and otherwise goes to it as often as can be done."""
    row_at(fun, number)

    def choose(at, row):
        return 1 if closes(row[2]) or stands_in(number, row[2], at + 1) else 0

    return _walk(fun, choose)


def parted_walk(fun):
    """A walk whose stack deeds and chart deeds differ, or None if no beginning of a walk has such deeds."""
    # The probe walks of the defer rows decide: if all of them agree, then all beginnings do.
    for number, depth, row in numbered_rows(fun):
        if row[0] == "defer":
            walk = probe_walk(fun, number)
            if stack_due(fun, walk) != chart_due(fun, walk[-1]):
                return walk
    return None


def _count_in(rows):
    """How many walks through a rows list end in it, and how many come to its end."""
    ended = 0
    through = 1
    for row in rows:
        inside, behind = _count_at(row)
        ended += through * inside
        through = through * behind
    return ended, through


def _count_at(row):
    """How many walks that come to a row end there, and how many go on behind it."""
    if row[0] == "return":
        return 1, 0
    if row[0] == "loop":
        return _count_in(row[2] * row[1])
    if row[0] == "if":
        ended, through = _count_in(row[2])
        other_ended, other_through = _count_in(row[3])
        return ended + other_ended, through + other_through
    return 0, 1


def _walk(fun, choose):
    """The walk that takes the rows list of the index `choose(number, row)` at each if row."""
    agenda = listed_rows(fun[4], 1)[::-1]
    met = []
    while agenda:
        number, row = agenda.pop()
        inner = inner_listed(number, row)
        if row[0] == "loop":
            agenda.extend(inner[0][::-1] * row[1])
            continue
        met.append(number)
        if row[0] == "return":
            break
        if row[0] == "if":
            agenda.extend(inner[choose(number, row)][::-1])
    return tuple(met)


def _picked_walk(fun, picks):
    """The walk that chooses by picks, the first rows list where they are missing, and all its choices."""
    choices = []

    def choose(at, row):
        choices.append(pick_at(picks, len(choices)))
        return choices[-1]

    walk = _walk(fun, choose)
    return walk, choices


def _note_bounds(listed, target, bound, bounds):
    """Notes the bounds of the rows of a list that is entered with a bound; returns the bound behind it.

    A bound is None where no walk comes."""
    for number, row in listed:
        inner = inner_listed(number, row)
        if bound is None:
            return None
        if row[0] == "loop":
            bound = _note_bounds(inner[0] * row[1], target, bound, bounds)
            continue
        bounds[number] = _joined(bounds.get(number), bound)
        if number == target:
            bound = (bound[0] + 1, bound[1] + 1)
        if row[0] == "return":
            bound = None
        if row[0] == "if":
            first = _note_bounds(inner[0], target, bound, bounds)
            second = _note_bounds(inner[1], target, bound, bounds)
            bound = _joined(first, second)
    return bound


def _joined(one, other):
    """The bound that holds both of two bounds."""
    if one is None or other is None:
        return other if one is None else one
    return (min(one[0], other[0]), max(one[1], other[1]))
