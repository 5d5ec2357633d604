"""The written forms of tellings, records and runs."""

from quickways.errors import BadText
from quickways.mixtures import Mixture
from quickways.names import DIGITS, read_value, show_value
from quickways.runs import Run

MOST_DIGITS = 60
RUN_LINES = 4


def line_text(line):
    """The written form of a line of a telling, or of None for no line."""
    if line is None:
        return "nothing"
    if line[0] == "place":
        return f"place {line[1]} {show_value(line[2])}"
    if line[0] in ("print", "gives"):
        return f"{line[0]} {show_value(line[1])}"
    return " ".join(line)


def telling_lines(telling):
    """The written forms of the lines of a telling."""
    return [line_text(line) for line in telling]


def record_text(record):
    """The written form of a record."""
    task, action, fun, number, raised, reads, writes = record
    text = f"{task} {action} {fun} {number}"
    return f"{text} fails {raised}" if raised else text


def write_run(run):
    """The written form of a run."""
    answers = [show_value(value) for value in run.answers]
    weaving = [show_value(number) for number in run.weaving]
    return "\n".join([
        f"ways {run.mixture}", " ".join(["answers"] + answers), " ".join(["weaving"] + weaving), f"steps {len(run)}"])


def read_number(text, line):
    """The number of a weaving or of steps that is written so."""
    if not 1 <= len(text) <= MOST_DIGITS or not all([sign in DIGITS for sign in text]):
        raise BadText(line)
    if text[0] == "0" and text != "0":
        raise BadText(line)
    return int(text)


def read_run(program, text):
    """The run of a program with a written form, done up to its number of steps."""
    lines = text.split("\n")
    mixture = _read_ways(lines[0])
    answers = [read_value(item, 2) for item in _items_behind("answers", lines, 2)]
    weaving = [read_number(item, 3) for item in _items_behind("weaving", lines, 3)]
    told = _items_behind("steps", lines, RUN_LINES)
    if len(told) != 1:
        raise BadText(RUN_LINES)
    steps = read_number(told[0], RUN_LINES)
    if len(lines) > RUN_LINES:
        raise BadText(RUN_LINES + 1)
    run = Run(program, mixture, answers=answers, weaving=weaving)
    while len(run) < steps:
        run.step()
    return run


def _read_ways(text):
    """The mixture of the first line of a run."""
    if not text.startswith("ways "):
        raise BadText(1)
    return Mixture.read(text.removeprefix("ways "))


def _items_behind(word, lines, number):
    """The items behind the word with which the line of a number, counted from 1, has to begin."""
    items = lines[number - 1].split(" ") if number <= len(lines) else []
    if items[:1] != [word]:
        raise BadText(number)
    return items[1:]
