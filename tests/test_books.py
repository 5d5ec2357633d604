"""Books [82]."""

import itertools
import random
import unittest

from quickways.books import Books
from quickways.errors import BadRule, BadText
from quickways.mixtures import PARTS
from quickways.rules import RULES, rules_of
from tests.test_rules import NO_RULES


def bad_rule(function, *args):
    """The string that a call refuses as no rule, None if it refuses none."""
    try:
        function(*args)
    except BadRule as why:
        return why.rule
    return None


def is_read(text):
    try:
        Books.read(text)
    except BadText as why:
        assert why.line == 1, text
        return False
    return True


def some_books(seed, many):
    """So many different sets of rules, the empty one and the full one among them."""
    rng = random.Random(seed)
    found = [(), RULES]
    while len(found) < many:
        found.append(tuple(rule for rule in RULES if rng.random() < 0.5))
    return found


class TestMaking(unittest.TestCase):
    def test_terms(self):
        self.assertEqual(list(Books()), [])
        self.assertEqual(list(Books("loans.task")), ["loans.task"])
        self.assertEqual(list(Books("exits")), list(rules_of("exits")))
        self.assertEqual(list(Books("watch", "loans.name", "casts", "loans.name", "watch.still", "watch")),
                         ["casts.fork", "loans.name", "watch.still"])
        self.assertEqual(list(Books("tasks.ask", "tasks")), ["tasks.share", "tasks.ask"])
        self.assertEqual(tuple(Books(*RULES[::-1])), RULES)
        self.assertEqual(tuple(Books(*PARTS[::-1])), RULES)

    def test_the_first_bad_term(self):
        for text in NO_RULES:
            if text not in PARTS:
                self.assertEqual(bad_rule(Books, text), text)
                self.assertEqual(bad_rule(Books, "casts", "loans.name", text, "worse"), text)
        self.assertEqual(bad_rule(Books, "worse", "bad"), "worse")

    def test_full_and_none(self):
        self.assertEqual(tuple(Books.full()), RULES)
        self.assertEqual(tuple(Books.none()), ())
        one = Books.full()
        one["casts"] = False
        self.assertEqual(tuple(Books.full()), RULES)
        one = Books.none()
        one["casts"] = True
        self.assertEqual(tuple(Books.none()), ())


class TestText(unittest.TestCase):
    def test_text(self):
        self.assertEqual(str(Books.none()), "")
        self.assertEqual(str(Books("watch", "loans.alias")), "loans.alias watch.still")
        self.assertEqual(str(Books.full()), " ".join(RULES))

    def test_what_is_written_is_read(self):
        for rules in some_books(1, 200):
            text = str(Books(*rules))
            self.assertEqual(text, " ".join(rules))
            self.assertEqual(tuple(Books.read(text)), rules)
            self.assertEqual(str(Books.read(text)), text)

    def test_near_misses(self):
        for text in (" ", "  ", "casts.fork ", " casts.fork", "casts.fork  loans.alias", "loans.alias casts.fork",
                     "casts.fork casts.fork", "casts.fork loans.alias loans.alias",
                     "casts", "loans tasks", "casts.fork,loans.alias", "Casts.fork", "casts.for", "casts.forks", "none",
                     "full",
                     "casts.fork bad", "bad", "tasks.share loans.task"):
            self.assertFalse(is_read(text), text)

    def test_every_order_of_three(self):
        rules = ("loans.name", "exits.stale", "tasks.ask")
        for order in itertools.permutations(rules):
            self.assertEqual(is_read(" ".join(order)), order == rules)


class TestAsking(unittest.TestCase):
    def test_in(self):
        books = Books("loans", "tasks.ask")
        self.assertEqual([rule for rule in RULES if rule in books], list(rules_of("loans")) + ["tasks.ask"])
        for text in NO_RULES + PARTS + ("loans",):
            self.assertIs(text in books, False)
        self.assertIs("tasks.ask" in books, True)

    def test_length_and_iteration(self):
        for rules in some_books(2, 40):
            books = Books(*rules)
            self.assertEqual((len(books), list(books)), (len(rules), list(rules)))
            self.assertIs(type(len(books)), int)

    def test_equality(self):
        self.assertTrue(Books("tasks") == Books("tasks.ask", "tasks.share"))
        self.assertFalse(Books("tasks") != Books("tasks.ask", "tasks.share"))
        self.assertFalse(Books("tasks") == Books("tasks.ask"))
        self.assertFalse(Books.none() == Books.full())
        for other in (None, "", (), [], "casts.fork", ("casts.fork",), 0):
            self.assertFalse(Books.none() == other)
            self.assertFalse(Books("casts") == other)

    def test_terms_as_indexes(self):
        books = Books("loans.name", "tasks", "casts")
        self.assertEqual([books[part] for part in PARTS], [True, None, False, True, False])
        self.assertEqual([books[rule] for rule in RULES], [rule in books for rule in RULES])
        for rule in RULES:
            self.assertIn(books[rule], (True, False))
        for rules in some_books(3, 60):
            books = Books(*rules)
            for part in PARTS:
                kept = [rule in rules for rule in rules_of(part)]
                self.assertIs(books[part], True if all(kept) else None if any(kept) else False)

    def test_other_strings_as_indexes(self):
        books = Books("loans")
        for text in NO_RULES:
            if text not in PARTS:
                self.assertEqual(bad_rule(books.__getitem__, text), text)
                for flag in (True, False):
                    self.assertEqual(bad_rule(books.__setitem__, text, flag), text)
        self.assertEqual(str(books), str(Books("loans")))


class TestChanging(unittest.TestCase):
    def test_putting_in_force_and_easing(self):
        for rules in some_books(4, 40):
            for term in PARTS + RULES:
                own = rules_of(term) if term in PARTS else (term,)
                for flag in (True, False):
                    books = Books(*rules)
                    books[term] = flag
                    wanted = [rule for rule in RULES if (flag if rule in own else rule in rules)]
                    self.assertEqual((list(books), len(books), str(books)),
                                     (wanted, len(wanted), " ".join(wanted)))
                    self.assertIs(books[term], flag)

    def test_new_books(self):
        for rules, others in itertools.product(some_books(5, 25), repeat=2):
            one, other = Books(*rules), Books(*others)
            self.assertEqual(tuple(one | other), tuple(rule for rule in RULES if rule in rules or rule in others))
            self.assertEqual(tuple(one & other), tuple(rule for rule in rules if rule in others))
            self.assertEqual(tuple(one - other), tuple(rule for rule in rules if rule not in others))
            self.assertEqual(tuple(~one), tuple(rule for rule in RULES if rule not in rules))
            self.assertEqual((tuple(one), tuple(other)), (rules, others))

    def test_the_new_ones_share_nothing(self):
        one = Books("loans")
        for made in (one | one, one & one, one - Books.none(), ~~one):
            self.assertIsNot(made, one)
            made["loans"] = False
            self.assertEqual(one, Books("loans"))

    def test_in_place(self):
        for rules, others in itertools.product(some_books(6, 20), repeat=2):
            books, other = Books(*rules), Books(*others)
            same = books
            books |= other
            self.assertIs(books, same)
            self.assertEqual(tuple(same), tuple(rule for rule in RULES if rule in rules or rule in others))
            books = Books(*rules)
            same = books
            books -= other
            self.assertIs(books, same)
            self.assertEqual((tuple(same), len(same)), (tuple(rule for rule in rules if rule not in others),
                                                        len(books)))
            self.assertEqual(tuple(other), others)

    def test_in_place_with_itself(self):
        books = Books("loans", "watch")
        books |= books
        self.assertEqual(books, Books("loans", "watch"))
        books -= books
        self.assertEqual(books, Books.none())


if __name__ == "__main__":
    unittest.main()
