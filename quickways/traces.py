"""Traces: events of tasks, and which orders of them come to the same."""

from quickways.errors import TooLarge
from quickways.weavings import next_picks, pick_at


def trace_of(records):
    """The trace of the events of records, in their order."""
    return tuple([(record[0], record[5], record[6]) for record in records])


def free(one, other, /):
    """Whether two events are of different tasks and neither writes what the other one reads or writes."""
    if one[0] == other[0]:
        return False
    touched = other[1] + other[2]
    return all([cell not in touched for cell in one[2]]) and all([cell not in one[1] for cell in other[2]])


def exchanges(trace):
    """Yields the traces in which two neighbours that are free of each other are exchanged."""
    for at in range(len(trace) - 1):
        if free(trace[at], trace[at + 1]):
            yield trace[:at] + (trace[at + 1], trace[at]) + trace[at + 2:]


def alike_traces(one, other, /):
    """Whether exchanges lead from one trace to the other."""
    return normal(one) == normal(other)


def normal(trace):
    """The one of the alike traces that comes before all others."""
    made, options = _arranged(trace, _followers(trace), [])
    return made


def alike_to(trace, *, most=200):
    """Yields the traces alike to a trace, those that come before others first."""
    followers = _followers(trace)
    count = 0
    picks = []
    while picks is not None:
        if count == most:
            raise TooLarge(most)
        made, options = _arranged(trace, followers, picks)
        yield made
        count += 1
        picks = next_picks(picks, options)


def swaps(one, other, /):
    """The fewest exchanges that lead from one trace to the other, as indexes, or None."""
    if not alike_traces(one, other):
        return None
    rest = list(one)
    found = []
    for goal, event in enumerate(other):
        # Equal events are of one task, so the first of them is the one that belongs here.
        at = rest.index(event, goal)
        rest.insert(goal, rest.pop(at))
        found.extend(list(range(at - 1, goal - 1, -1)))
    return tuple(found)


def parting_pair(one, other, /):
    """Two events that part two traces, or None if the traces are alike."""
    rest = list(one)
    for event in other:
        if event not in rest:
            return (event, event)
        for earlier in rest[:rest.index(event)]:
            if not free(earlier, event):
                return (earlier, event)
        rest.remove(event)
    return (rest[0], rest[0]) if rest else None


def layers(trace):
    """The events of each layer, in the ascending order of their tasks."""
    numbers = _layer_numbers(trace)
    found = []
    for layer in range(max(numbers, default=-1) + 1):
        found.append(tuple(sorted([event for event, number in zip(trace, numbers) if number == layer])))
    return tuple(found)


def longest_chain(trace):
    """The indexes of a longest chain of a trace."""
    numbers = _layer_numbers(trace)
    found = []
    for at in range(len(trace) - 1, -1, -1):
        wanted = numbers[found[-1]] - 1 if found else max(numbers)
        if numbers[at] == wanted and (not found or not free(trace[at], trace[found[-1]])):
            found.append(at)
    return tuple(found[::-1])


def _layer_numbers(trace):
    """The number of the layer of each event."""
    numbers = []
    for at, event in enumerate(trace):
        under = [number for earlier, number in zip(trace[:at], numbers) if not free(earlier, event)]
        numbers.append(max(under, default=-1) + 1)
    return numbers


def _followers(trace):
    """For each event the indexes of the events behind it that are not free of it."""
    many = len(trace)
    return [[k for k in range(at + 1, many) if not free(event, trace[k])] for at, event in enumerate(trace)]


def _arranged(trace, followers, picks):
    """The alike trace in which each pick chooses one of the events that can be next, and how many these are.

    The events that can be next are taken in the order of their tasks."""
    waiting = [0] * len(trace)
    for behind in followers:
        for at in behind:
            waiting[at] += 1
    ready = [(trace[at][0], at) for at in range(len(trace)) if waiting[at] == 0]
    made = []
    options = []
    while ready:
        ready = sorted(ready)
        options.append(len(ready))
        at = ready.pop(pick_at(picks, len(made)))[1]
        made.append(trace[at])
        for later in followers[at]:
            waiting[later] -= 1
            if waiting[later] == 0:
                ready.append((trace[later][0], later))
    return tuple(made), options
