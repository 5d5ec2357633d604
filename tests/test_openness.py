"""Unsafe sets, open parts, agreement, classes, least books and safe easings [84] to [88]."""

import itertools
import unittest

from quickways.books import Books
from quickways.errors import BadPart
from quickways.mixtures import PARTS, Mixture, all_mixtures
from quickways.openness import agree, classes, needed, open_parts, opening, safe_easings
from quickways.rules import RULES
from tests.test_books import some_books
from tests.test_rules import NO_PARTS
from tests.told import UNSAFE

ALL_SETS = [rules for many in range(len(RULES) + 1) for rules in itertools.combinations(RULES, many)]


def is_open(rules, part):
    """Whether a part is open if exactly these rules are in force."""
    return any(own == part and not set(unsafe) & set(rules) for own, unsafe in UNSAFE)


def are_least(rules, parts):
    """Whether the books in which exactly these rules are in force are least for some parts [87]."""
    if any(is_open(rules, part) for part in parts):
        return False
    return all(any(is_open(set(rules) - {rule}, part) for part in parts) for rule in rules)


def bad_part(function, *args):
    """The string that a call refuses as no part, None if it refuses none."""
    try:
        function(*args)
    except BadPart as why:
        return why.part
    return None


class TestOpening(unittest.TestCase):
    def test_full_and_none(self):
        for part in PARTS:
            self.assertIsNone(opening(Books.full(), part))
        self.assertEqual([opening(Books.none(), part) for part in PARTS],
                         [("casts.fork",), ("loans.alias",), ("exits.branch",), ("tasks.share",), ("watch.still",)])
        self.assertEqual(open_parts(Books.full()), ())
        self.assertEqual(open_parts(Books.none()), PARTS)

    def test_the_first_unsafe_set(self):
        loans = Books("loans")
        self.assertIsNone(opening(loans, "loans"))
        self.assertIsNone(opening(loans - Books("loans.task") | Books("tasks.share"), "loans"))
        self.assertEqual(opening(loans - Books("loans.task"), "loans"), ("loans.task", "tasks.share"))
        self.assertEqual(opening(loans - Books("loans.task", "loans.watched"), "loans"), ("loans.watched",))
        self.assertEqual(opening(Books("loans.alias", "loans.task"), "loans"), ("loans.name",))
        self.assertEqual(opening(Books("exits.branch", "exits.loop"), "exits"), ("exits.stale",))
        self.assertEqual(opening(Books("exits.stale", "exits.branch"), "exits"), ("exits.loop",))
        self.assertEqual(opening(Books("tasks.share"), "tasks"), ("tasks.ask",))
        self.assertEqual(opening(Books("tasks.ask", "loans"), "tasks"), ("tasks.share",))
        self.assertEqual(open_parts(Books("tasks", "casts")), ("loans", "exits", "watch"))

    def test_against_the_sets(self):
        for rules in some_books(121, 300):
            books = Books(*rules)
            for part in PARTS:
                found = [unsafe for own, unsafe in UNSAFE if own == part and not set(unsafe) & set(rules)]
                self.assertEqual(opening(books, part), found[0] if found else None)
            self.assertEqual(open_parts(books), tuple(part for part in PARTS if is_open(rules, part)))

    def test_bad_parts(self):
        for text in NO_PARTS + RULES:
            self.assertEqual(bad_part(opening, Books.full(), text), text)


class TestAgree(unittest.TestCase):
    def test_agree(self):
        books = Books("casts", "exits", "watch")
        self.assertIs(agree(books, Mixture(), Mixture.of("casts", "exits")), True)
        self.assertIs(agree(books, Mixture(), Mixture.of("loans")), False)
        self.assertIs(agree(books, Mixture.of("loans", "watch"), Mixture.of("loans")), True)
        self.assertIs(agree(Books.none(), Mixture.of("loans"), Mixture.of("loans")), True)

    def test_against_the_words(self):
        for rules in some_books(122, 12):
            books = Books(*rules)
            parts = [part for part in PARTS if is_open(rules, part)]
            for one, other in itertools.product(list(all_mixtures()), repeat=2):
                self.assertIs(agree(books, one, other), all(one[part] == other[part] for part in parts))

    def test_classes_of_full_and_no_books(self):
        self.assertEqual(classes(Books.full()), (tuple(range(32)),))
        self.assertEqual(classes(Books.none()), tuple((number,) for number in range(32)))

    def test_classes_between(self):
        books = Books.full() - Books("exits.loop", "casts")
        self.assertEqual(classes(books), tuple(
            tuple(low + more for more in (0, 2, 8, 10, 16, 18, 24, 26)) for low in (0, 1, 4, 5)))

    def test_classes_against_agree(self):
        for rules in some_books(123, 30):
            books = Books(*rules)
            found = classes(books)
            self.assertEqual(sorted(number for numbers in found for number in numbers), list(range(32)))
            self.assertEqual(list(found), sorted(found))
            for one in found:
                self.assertEqual(list(one), sorted(one))
                for other in found:
                    same = agree(books, Mixture.numbered(one[-1]), Mixture.numbered(other[0]))
                    self.assertIs(same, one == other)


class TestNeeded(unittest.TestCase):
    def test_no_part(self):
        self.assertEqual([str(books) for books in needed()], [""])

    def test_each_part(self):
        told = {"casts": ["casts.fork"],
                "loans": ["loans.alias loans.name loans.watched loans.task",
                          "loans.alias loans.name loans.watched tasks.share"],
                "exits": ["exits.branch exits.loop exits.stale"], "tasks": ["tasks.share tasks.ask"],
                "watch": ["watch.still"]}
        for part in PARTS:
            self.assertEqual([str(books) for books in needed(part)], told[part])
            self.assertEqual([str(books) for books in needed(part, part)], told[part])

    def test_several_parts(self):
        self.assertEqual([str(books) for books in needed("tasks", "loans")],
                         ["loans.alias loans.name loans.watched tasks.share tasks.ask"])
        self.assertEqual([str(books) for books in needed("watch", "loans", "casts", "watch")],
                         ["casts.fork loans.alias loans.name loans.watched loans.task watch.still",
                          "casts.fork loans.alias loans.name loans.watched tasks.share watch.still"])
        self.assertEqual([str(books) for books in needed(*PARTS)],
                         [" ".join(rule for rule in RULES if rule != "loans.task")])

    def test_against_all_books(self):
        for many in range(len(PARTS) + 1):
            for parts in itertools.permutations(PARTS, many):
                if many > 2 and parts != tuple(sorted(parts)):
                    continue
                # These sets stand in the order that the document tells: by their sizes, then by their rules.
                wanted = [rules for rules in ALL_SETS if are_least(rules, parts)]
                self.assertEqual([tuple(books) for books in needed(*parts)], wanted, parts)

    def test_new_objects(self):
        first, second = list(needed("loans")), list(needed("loans"))
        first[0]["loans"] = False
        self.assertEqual([str(books) for books in second], [str(books) for books in needed("loans")])

    def test_bad_parts_when_the_iteration_begins(self):
        for text in NO_PARTS:
            made = needed("loans", text, "worse")
            with self.assertRaises(BadPart) as caught:
                next(made)
            self.assertEqual(caught.exception.part, text)


class TestSafeEasings(unittest.TestCase):
    def test_easings(self):
        full = Books.full()
        self.assertEqual(safe_easings(full), RULES)
        self.assertEqual(safe_easings(full, "loans"), tuple(
            rule for rule in RULES if rule not in ("loans.alias", "loans.name", "loans.watched")))
        self.assertEqual(safe_easings(full, *PARTS), ("loans.task",))
        self.assertEqual(safe_easings(full - Books("tasks.share"), *PARTS), ("tasks.ask",))
        self.assertEqual(safe_easings(Books("exits.loop", "casts"), "exits", "casts"), ("exits.loop",))
        self.assertEqual(safe_easings(Books.none(), *PARTS), ())

    def test_against_the_words(self):
        for rules in some_books(124, 60):
            for many in range(4):
                for parts in itertools.combinations(PARTS, many):
                    closed = [part for part in parts if not is_open(rules, part)]
                    wanted = tuple(rule for rule in rules
                                   if not any(is_open(set(rules) - {rule}, part) for part in closed))
                    self.assertEqual(safe_easings(Books(*rules), *parts), wanted)
                    self.assertEqual(safe_easings(Books(*rules), *parts[::-1], *parts), wanted)

    def test_bad_parts(self):
        for text in NO_PARTS:
            for books in (Books.full(), Books.none()):
                self.assertEqual(bad_part(safe_easings, books, text), text)
                self.assertEqual(bad_part(safe_easings, books, "loans", text, "worse"), text)


if __name__ == "__main__":
    unittest.main()
