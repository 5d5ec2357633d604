"""Check rows [27, 28] and their sums [30]."""

import unittest

from quickways.checkrows import CheckRow
from quickways.errors import BadKind
from quickways.kinds import SAMPLES

CASTS = (("nat", None, "a"), ("small", "digit", "b"), (None, "nat", "c"), ("num", "word", "d"))


def read_answers(row):
    return [row.reading(value) for value in SAMPLES]


def write_answers(row):
    return [row.writing(value) for value in SAMPLES]


class TestAnswers(unittest.TestCase):
    def test_no_casts(self):
        self.assertEqual(read_answers(CheckRow()) + write_answers(CheckRow()), [None] * 12)
        self.assertEqual(len(CheckRow()), 0)

    def test_reading_from_the_first_cast_on(self):
        self.assertEqual(read_answers(CheckRow(*CASTS)), ["a+", "a+", None, None, "b+", "a+"])
        self.assertEqual(read_answers(CheckRow(*CASTS[::-1])), ["b+", "a+", None, None, "b+", "d+"])

    def test_writing_from_the_last_cast_on(self):
        self.assertEqual(write_answers(CheckRow(*CASTS)), ["d-", "d-", "d-", "d-", "d-", "c-"])
        self.assertEqual(write_answers(CheckRow(*CASTS[:3])), ["c-", "c-", None, None, "b-", "c-"])
        self.assertEqual(write_answers(CheckRow(*CASTS[2::-1])), ["b-", "b-", None, None, "b-", "b-"])

    def test_other_values_than_samples(self):
        row = CheckRow(("digit", "small", "f.1"))
        told = {-10: ("f.1+", "f.1-"), -9: ("f.1+", None), -1: ("f.1+", None), 0: (None, None), 9: (None, None),
                10: ("f.1+", "f.1-"), "red": ("f.1+", "f.1-")}
        for value, answers in told.items():
            self.assertEqual((row.reading(value), row.writing(value)), answers)

    def test_labels_are_kept_as_they_are(self):
        row = CheckRow(("bit", "bit", ""), ("word", "word", "x+"))
        self.assertEqual((row.reading(5), row.reading(1)), ("+", "x++"))
        self.assertEqual((row.writing(5), row.writing("a")), ("x+-", "-"))


class TestMaking(unittest.TestCase):
    def test_lent(self):
        row = CheckRow(*CASTS[:2])
        more = row.lent(*CASTS[2])
        self.assertEqual(list(more), list(CASTS[:3]))
        self.assertEqual(more, CheckRow(*CASTS[:3]))
        self.assertEqual(list(row), list(CASTS[:2]))

    def test_casts_without_kinds_are_left_out(self):
        row = CheckRow(CASTS[0], (None, None, "x"), CASTS[1])
        self.assertEqual(row, CheckRow(*CASTS[:2]))
        self.assertEqual(len(row), 2)
        self.assertEqual(list(row), list(CASTS[:2]))
        self.assertEqual(row.lent(None, None, "y"), row)
        self.assertEqual(CheckRow((None, None, "x")), CheckRow())

    def test_wrong_kinds(self):
        cases = (((("x", "y", "a"),), "x"), (((None, "y", "a"),), "y"), ((CASTS[0], ("nat", "", "a"), ("z", None, "b")), ""),
                 (((None, None, "a"), ("lent", "q", "a")), "lent"), ((("nat", "v", "a"), ("u", None, "a")), "v"))
        for casts, wrong in cases:
            with self.assertRaises(BadKind) as caught:
                CheckRow(*casts)
            self.assertEqual(caught.exception.kind, wrong)
        row = CheckRow(CASTS[0])
        for read, write, wrong in (("x", "y", "x"), (None, "y", "y"), ("nat", "y", "y"), ("x", None, "x")):
            with self.assertRaises(BadKind) as caught:
                row.lent(read, write, "a")
            self.assertEqual(caught.exception.kind, wrong)
        self.assertEqual(row, CheckRow(CASTS[0]))


class TestOperators(unittest.TestCase):
    def test_sum(self):
        for at in range(5):
            one, two = CheckRow(*CASTS[:at]), CheckRow(*CASTS[at:])
            self.assertEqual(one + two, CheckRow(*CASTS))
            self.assertEqual(list(two + one), list(CASTS[at:] + CASTS[:at]))
            self.assertEqual((list(one), list(two)), (list(CASTS[:at]), list(CASTS[at:])))

    def test_mirror(self):
        row = CheckRow(*CASTS)
        told = [("word", "num", "d"), ("nat", None, "c"), ("digit", "small", "b"), (None, "nat", "a")]
        self.assertEqual(list(~row), told)
        self.assertEqual(~~row, row)
        self.assertEqual(list(row), list(CASTS))
        self.assertEqual([text[:-1] if text else None for text in read_answers(~row)],
                         [text[:-1] if text else None for text in write_answers(row)])

    def test_equal(self):
        row = CheckRow(*CASTS)
        self.assertIs(row == CheckRow(*CASTS), True)
        for other in (CheckRow(*CASTS[::-1]), CheckRow(*CASTS[:3]), CheckRow(), CheckRow(("nat", None, "b"), *CASTS[1:])):
            self.assertIs(row == other, False)
        for other in (None, CASTS, list(CASTS), "row", 4):
            self.assertIs(row == other, False)
        self.assertIs(CheckRow(("nat", None, "a")) == CheckRow((None, "nat", "a")), False)

    def test_length_and_iteration(self):
        self.assertEqual([len(CheckRow(*CASTS[:at])) for at in range(5)], [0, 1, 2, 3, 4])
        self.assertEqual(tuple(CheckRow(*CASTS)), CASTS)


if __name__ == "__main__":
    unittest.main()
