"""Kinds at odds in check rows [31] and what views answer [32]."""

import unittest

from quickways.checkrows import CheckRow
from quickways.errors import BadKind
from quickways.kinds import KINDS, SAMPLES
from quickways.middles import Middle
from quickways.odds import alike, blamed_texts, fork_row, has_odds, normal_row, odd_pairs, parting_value, trimmed

PAIRS = [("nat", "small"), ("nat", "word"), ("small", "word"), ("digit", "word"), ("bit", "word")]
VALUES = {("nat", "small"): -50, ("nat", "word"): -50, ("small", "word"): -50, ("digit", "word"): -50, ("bit", "word"): -50}


def answers(view):
    return [view.reading(value) for value in SAMPLES] + [view.writing(value) for value in SAMPLES]


def some_rows():
    """Check rows with one to three casts of several forms."""
    checks = [(None, "nat"), ("nat", None), ("small", "small"), ("word", "bit"), ("bit", "word"), ("num", "any"), ("digit", "num")]
    rows = [CheckRow()]
    for one in checks:
        rows.append(CheckRow((*one, "x")))
        for two in checks:
            rows.append(CheckRow((*one, "x"), (*two, "y")))
            rows.extend([CheckRow((*one, "x"), (*two, "y"), (*three, label)) for three in checks for label in "xz"])
    return rows


ROWS = some_rows()


class TestOdds(unittest.TestCase):
    def test_odd_pairs(self):
        self.assertEqual(odd_pairs(), PAIRS)

    def test_has_odds(self):
        for kind, other in PAIRS:
            for one, two in ((kind, other), (other, kind)):
                self.assertIs(has_odds(CheckRow((one, None, "a"), (two, None, "b"))), True)
                self.assertIs(has_odds(CheckRow((None, one, "a"), ("any", None, "c"), (None, two, "b"))), True)
                self.assertIs(has_odds(CheckRow((one, two, "a"))), False)
                self.assertIs(has_odds(CheckRow((one, None, "a"), (None, two, "b"))), False)
        for row in (CheckRow(), CheckRow(("nat", "nat", "a")), CheckRow(("num", None, "a"), ("word", None, "b")),
                    CheckRow(("nat", "word", "a"), ("digit", "any", "b"), ("num", "num", "c"))):
            self.assertIs(has_odds(row), False)

    def test_fork_rows_of_all_pairs(self):
        for kind in KINDS:
            for other in KINDS:
                pair = tuple(text for text in KINDS if text in (kind, other))
                for direction in ("reading", "writing"):
                    made = fork_row(kind, other, direction=direction)
                    if pair not in PAIRS:
                        self.assertIsNone(made)
                        continue
                    row, value = made
                    first, second = pair
                    casts = [(second, None, "x"), (first, None, "y")]
                    if direction == "writing":
                        casts = [(None, first, "x"), (None, second, "y")]
                    self.assertIsInstance(row, CheckRow)
                    self.assertEqual((list(row), value), (casts, VALUES[pair]))
                    self.check_answers(row, value, direction)
        self.assertEqual(fork_row("small", "nat"), fork_row("nat", "small", direction="reading"))

    def check_answers(self, row, value, direction):
        """The order of the casts matters: the middle blames another one."""
        middle = Middle.of(row)
        if direction == "reading":
            self.assertEqual((row.reading(value), middle.reading(value)), ("x+", "y+"))
        else:
            self.assertEqual((row.writing(value), middle.writing(value)), ("y-", "x-"))

    def test_example(self):
        row, value = fork_row("nat", "small")
        self.assertEqual((value, row.reading(value), Middle.of(row).reading(value)), (-50, "x+", "y+"))

    def test_fork_row_errors(self):
        for kind, other, wrong in (("x", "nat", "x"), ("nat", "y", "y"), ("x", "y", "x"), ("any", "", "")):
            for direction in ("reading", "writing"):
                with self.assertRaises(BadKind) as caught:
                    fork_row(kind, other, direction=direction)
                self.assertEqual(caught.exception.kind, wrong)


class TestTrimmed(unittest.TestCase):
    def test_spare_read_checks(self):
        row = CheckRow(("any", None, "a"), ("nat", None, "b"), ("num", "bit", "c"), ("nat", None, "d"), ("bit", None, "e"),
                       ("digit", None, "f"))
        self.assertEqual(list(trimmed(row)), [("nat", None, "b"), (None, "bit", "c"), ("bit", None, "e")])
        row = CheckRow(("num", None, "a"), ("word", None, "b"), ("bit", None, "c"))
        self.assertEqual(list(trimmed(row)), list(row)[:2])
        row = CheckRow(("nat", None, "a"), ("small", None, "b"), ("digit", None, "c"))
        self.assertEqual(list(trimmed(row)), list(row)[:2])
        row = CheckRow(("digit", None, "a"), ("small", None, "b"))
        self.assertEqual(list(trimmed(row)), list(row)[:1])

    def test_spare_write_checks(self):
        row = CheckRow((None, "digit", "a"), (None, "bit", "b"), (None, "nat", "c"), ("word", "num", "d"), (None, "bit", "e"),
                       (None, "any", "f"))
        self.assertEqual(list(trimmed(row)), [("word", None, "d"), (None, "bit", "e")])
        row = CheckRow((None, "bit", "a"), (None, "word", "b"), (None, "num", "c"))
        self.assertEqual(list(trimmed(row)), list(row)[1:])
        row = CheckRow((None, "bit", "a"), (None, "digit", "b"))
        self.assertEqual(list(trimmed(row)), list(row))

    def test_trimmed_rows_are_alike_and_have_no_spare_check(self):
        for row in ROWS:
            made = trimmed(row)
            self.assertIsInstance(made, CheckRow)
            self.assertEqual(answers(made), answers(row))
            self.assertEqual(trimmed(made), made)
            for at, cast in enumerate(made):
                for spot in (0, 1):
                    if cast[spot] is not None:
                        self.assertTrue(self.counts(list(made), at, spot), (list(made), at))

    def counts(self, casts, at, spot):
        """Whether a check is the first one to blame for some value, if its label is like no other."""
        casts = [(read, write, f"l{number}") for number, (read, write, _) in enumerate(casts)]
        row = CheckRow(*casts)
        told = [row.reading(value) if spot == 0 else row.writing(value) for value in SAMPLES]
        return f"l{at}+" in told or f"l{at}-" in told


class TestParting(unittest.TestCase):
    def test_parting_value(self):
        one = CheckRow(("num", "nat", "a"))
        cases = ((CheckRow(("num", "nat", "a")), None), (Middle.of(one), None), (CheckRow(), ("reading", "a")),
                 (CheckRow(("num", "nat", "b")), ("reading", "a")), (CheckRow(("num", "small", "a")), ("writing", -5)),
                 (CheckRow(("num", None, "a")), ("writing", -50)), (CheckRow(("nat", "bit", "a")), ("reading", -50)),
                 (CheckRow(("num", "digit", "a")), ("writing", 50)), (Middle(("num", "nat", "a"), ("small", None, "c")), ("reading", -50)))
        for other, told in cases:
            self.assertEqual(parting_value(one, other), told)
            self.assertEqual(parting_value(other, one), told)
            self.assertIs(alike(one, other), told is None)

    def test_texts_count_and_not_only_whether_there_is_one(self):
        one, two = CheckRow((None, "nat", "a")), CheckRow((None, "nat", "b"))
        self.assertEqual(parting_value(one, two), ("writing", -50))
        self.assertIs(alike(one, two), False)

    def test_against_the_answers(self):
        for row in ROWS[::5]:
            for other in ROWS[::7]:
                self.assertIs(alike(row, other), answers(row) == answers(other))

    def test_blamed_texts(self):
        self.assertEqual(blamed_texts(CheckRow()), [])
        self.assertEqual(blamed_texts(Middle()), [])
        row = CheckRow(("bit", "nat", "b"), ("word", "small", "a"), ("any", None, "c"))
        self.assertEqual(blamed_texts(row), ["a+", "a-", "b+", "b-"])
        self.assertEqual(blamed_texts(Middle.of(row)), ["a+", "a-", "b+", "b-"])
        row = CheckRow(("nat", None, "f.10"), ("bit", None, "f.2"))
        self.assertEqual(blamed_texts(row), ["f.10+", "f.2+"])
        for row in ROWS:
            self.assertEqual(blamed_texts(row), sorted(set(answers(row)) - {None}))


class TestNormalRows(unittest.TestCase):
    def test_examples(self):
        cases = (
            ((), []),
            ((("any", "any", "a"),), []),
            ((("nat", None, "a"),), [("nat", None, "a")]),
            # The kind that leaves out the most comes first, then those of the atoms that are left.
            ((("bit", None, "a"), ("word", None, "b")), [("bit", None, "a"), ("word", None, "b")]),
            ((("word", None, "a"), ("bit", None, "b")), [("word", None, "a"), ("num", None, "b")]),
            ((("nat", None, "a"), ("small", None, "b")), [("nat", None, "a"), ("small", None, "b")]),
            ((("small", None, "a"), ("nat", None, "b")), [("small", None, "a"), ("nat", None, "b")]),
            ((("num", None, "a"), ("nat", None, "b"), ("bit", None, "c")),
             [("num", None, "a"), ("nat", None, "b"), ("bit", None, "c")]),
            # Labels that are equal are taken together.
            ((("nat", None, "a"), ("small", None, "a")), [("digit", None, "a")]),
            (((None, "nat", "a"),), [(None, "nat", "a")]),
            (((None, "nat", "a"), (None, "small", "b")), [(None, "nat", "a"), (None, "small", "b")]),
            (((None, "bit", "a"), (None, "digit", "a"), ("num", None, "a")), [("num", None, "a"), (None, "bit", "a")]),
            (((None, "word", "f.1"), (None, "num", "f.2"), ("word", None, "f.3")),
             [("word", None, "f.3"), (None, "num", "f.2"), (None, "word", "f.1")]),
        )
        for casts, told in cases:
            with self.subTest(casts):
                self.assertEqual(list(normal_row(CheckRow(*casts))), told)

    def test_alike_views_have_one_normal_row(self):
        found = {}
        for row in ROWS:
            made = normal_row(row)
            self.assertIsInstance(made, CheckRow)
            self.assertEqual(answers(made), answers(row), list(row))
            found.setdefault(tuple(answers(row)), []).append(made)
            middle = Middle.of(row)
            self.assertEqual(answers(normal_row(middle)), answers(middle))
        for rows in found.values():
            self.assertTrue(all(row == rows[0] for row in rows))


if __name__ == "__main__":
    unittest.main()
