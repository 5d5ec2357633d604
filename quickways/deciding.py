"""What the stories decide: which mixtures agree under books, and the largest books that let a program."""

from quickways.books import Books
from quickways.rules import RULES
from quickways.stories import stories
from quickways.verdicts import faults, lets


def table_agrees(books, one, other):
    """Whether each story that the books let tells the same in two mixtures."""
    return witness(books, one, other) is None


def witness(books, one, other):
    """The first story that the books let and that does not tell the same in two mixtures, or None."""
    for story in stories():
        if lets(books, story.program) and story.tells(one) != story.tells(other):
            return story
    return None


def books_for(program):
    """The books with those rules in force of which a program has no fault."""
    broken = [rule for rule, where in faults(program)]
    rules = [rule for rule in RULES if rule not in broken]
    return Books(*rules)
