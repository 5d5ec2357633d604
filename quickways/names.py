"""Words, names, literals and labels, and how they are written."""

from quickways.errors import BadText
from quickways.kinds import KINDS

LETTERS = "abcdefghijklmnopqrstuvwxyz"
DIGITS = "0123456789"
MOST_SIGNS = 6
MOST_LITERAL = 99


def is_word(text):
    """Whether a string is a word."""
    return 1 <= len(text) <= MOST_SIGNS and all([sign in LETTERS for sign in text])


def is_name(text):
    """Whether a string is a name."""
    if text in KINDS or text == "lent":
        return False
    if not is_word(text[:1]) or len(text) > MOST_SIGNS:
        return False
    return all([sign in LETTERS or sign in DIGITS for sign in text])


def is_literal(value):
    """Whether a value is a literal."""
    if isinstance(value, str):
        return is_word(value)
    return -MOST_LITERAL <= value <= MOST_LITERAL


def show_value(value):
    """The written form of a value."""
    if isinstance(value, str):
        return f"'{value}"
    if value < 0:
        return f"-{_decimal(-value)}"
    return _decimal(value)


def read_value(text, line=1):
    """The literal that is written so."""
    if text[:1] == "'" and is_word(text[1:]):
        return text[1:]
    digits = text.removeprefix("-")
    if 1 <= len(digits) <= 2 and all([sign in DIGITS for sign in digits]):
        number = int(text)
        # Leading zeros and -0 are no written forms, and so they do not come back.
        if show_value(number) == text:
            return number
    raise BadText(line)


def label_of(fun, number):
    """The label of a row."""
    return f"{fun}.{number}"


def task_text(path):
    """The text of the path of a task."""
    births = "".join([f".{birth}" for birth in path])
    return f"0{births}"


def _decimal(number):
    """The digits of an integer that is not negative."""
    # Python refuses to write very long integers in one go: pieces of 60 digits are short enough.
    pieces = []
    while number >= 10 ** 60:
        number, low = divmod(number, 10 ** 60)
        pieces.append(str(low).zfill(60))
    pieces.append(str(number))
    return "".join(pieces[::-1])
