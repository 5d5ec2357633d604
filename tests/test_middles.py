"""Middles [27, 29], their check rows and sums [30], and the ways of the casts part."""

import unittest

from quickways.castways import MiddleCasts, RowCasts
from quickways.checkrows import CheckRow
from quickways.errors import BadKind
from quickways.kinds import KINDS, SAMPLES, atoms_of
from quickways.middles import Middle


def read_cast(kind, label):
    return (kind, None, label)


def write_cast(kind, label):
    return (None, kind, label)


def kept_for_reading(casts):
    """What point 29 keeps for reading, with atoms only."""
    kept = {}
    for kind, _, label in casts:
        passing = set(range(6))
        for told in kept:
            passing &= set(atoms_of(told))
        if kind is not None and not passing <= set(atoms_of(kind)):
            kept[kind] = label
    return tuple((kind, kept[kind]) for kind in KINDS if kind in kept)


def kept_for_writing(casts):
    """What point 29 keeps for writing, with atoms only."""
    kept = {}
    for _, kind, label in casts:
        if kind is not None and kind != "any":
            kept = {told: kept[told] for told in kept if not set(atoms_of(kind)) <= set(atoms_of(told))}
            kept[kind] = label
    return tuple((kind, kept[kind]) for kind in KINDS if kind in kept)


def all_middles():
    """A list of casts for each middle that can be reached, labels being told by their steps."""
    reached = {}
    left = [()]
    for casts in left:
        middle = Middle(*casts)
        key = (tuple(kind for kind, _ in middle.read_labels), tuple(kind for kind, _ in middle.write_labels))
        if key not in reached and len(casts) < 7:
            reached[key] = casts
            for kind in KINDS:
                left.append(casts + ((kind, kind, f"l{len(casts)}"),))
                left.append(casts + ((kind, None, f"l{len(casts)}"),))
                left.append(casts + ((None, kind, f"l{len(casts)}"),))
    return list(reached.values())


ALL = all_middles()


class TestKeeping(unittest.TestCase):
    def reads(self, *kinds):
        casts = [read_cast(kind, f"l{at}") for at, kind in enumerate(kinds)]
        return Middle(*casts).read_labels

    def writes(self, *kinds):
        casts = [write_cast(kind, f"l{at}") for at, kind in enumerate(kinds)]
        return Middle(*casts).write_labels

    def test_nothing(self):
        middle = Middle()
        self.assertEqual((middle.read_labels, middle.write_labels, len(middle)), ((), (), 0))
        for value in SAMPLES:
            self.assertEqual((middle.reading(value), middle.writing(value)), (None, None))

    def test_reading(self):
        self.assertEqual(self.reads("any"), ())
        self.assertEqual(self.reads("nat"), (("nat", "l0"),))
        self.assertEqual(self.reads("nat", "nat"), (("nat", "l0"),))
        self.assertEqual(self.reads("nat", "num", "any"), (("nat", "l0"),))
        self.assertEqual(self.reads("bit", "nat", "num"), (("bit", "l0"),))
        self.assertEqual(self.reads("num", "nat", "bit"), (("num", "l0"), ("nat", "l1"), ("bit", "l2")))
        self.assertEqual(self.reads("small", "nat", "digit"), (("nat", "l1"), ("small", "l0")))
        self.assertEqual(self.reads("digit", "nat", "small"), (("digit", "l0"),))
        self.assertEqual(self.reads("word", "num", *KINDS), (("num", "l1"), ("word", "l0")))
        self.assertEqual(self.reads("bit", "word", *KINDS), (("bit", "l0"), ("word", "l1")))

    def test_writing(self):
        self.assertEqual(self.writes("any"), ())
        self.assertEqual(self.writes("nat", "any"), (("nat", "l0"),))
        self.assertEqual(self.writes("nat", "nat"), (("nat", "l1"),))
        self.assertEqual(self.writes("bit", "nat"), (("nat", "l1"), ("bit", "l0")))
        self.assertEqual(self.writes("nat", "bit"), (("bit", "l1"),))
        self.assertEqual(self.writes("nat", "small", "word", "bit"), (("bit", "l3"), ("word", "l2")))
        self.assertEqual(self.writes("word", "num"), (("num", "l1"), ("word", "l0")))
        self.assertEqual(self.writes("bit", "digit", "small", "nat", "num", "any", "word"),
                         (("num", "l4"), ("nat", "l3"), ("small", "l2"), ("digit", "l1"), ("bit", "l0"), ("word", "l6")))

    def test_reading_and_writing_in_one_cast(self):
        middle = Middle(("nat", "small", "x"), ("num", "nat", "y"), (None, None, "z"))
        self.assertEqual(middle.read_labels, (("nat", "x"),))
        self.assertEqual(middle.write_labels, (("nat", "y"), ("small", "x")))
        self.assertEqual(len(middle), 3)

    def test_all_middles_against_the_words(self):
        self.assertGreater(len(ALL), 300)
        for casts in ALL:
            for more in ((), (("nat", "small", "m"),), (("word", "word", "m"),), (("bit", "num", "m"),)):
                middle = Middle(*casts, *more)
                self.assertEqual(middle.read_labels, kept_for_reading(casts + more))
                self.assertEqual(middle.write_labels, kept_for_writing(casts + more))
                self.assertEqual(len(middle), len(middle.read_labels) + len(middle.write_labels))


class TestAnswers(unittest.TestCase):
    def test_order_of_the_kinds(self):
        casts = (("word", "bit", "a"), ("small", "word", "b"), ("num", "small", "c"))
        middle = Middle(*casts)
        self.assertEqual(middle.read_labels, (("small", "b"), ("word", "a")))
        self.assertEqual([middle.reading(value) for value in SAMPLES], ["b+", "a+", "a+", "a+", "b+", "b+"])
        self.assertEqual(middle.write_labels, (("small", "c"), ("bit", "a"), ("word", "b")))
        self.assertEqual([middle.writing(value) for value in SAMPLES], ["c-", "a-", "b-", "a-", "c-", "c-"])

    def test_values_of_every_atom(self):
        told = {-10: ("x+", "y-"), -9: (None, "y-"), -1: (None, "y-"), 0: (None, None), 1: (None, None), 2: (None, None),
                9: (None, None), 10: ("x+", None), 10 ** 30: ("x+", None), -10 ** 30: ("x+", "y-"), "red": ("x+", "y-")}
        middle = Middle(("small", None, "x"), (None, "nat", "y"))
        for value, answers in told.items():
            self.assertEqual((middle.reading(value), middle.writing(value)), answers, value)

    def test_the_same_values_pass_as_in_the_check_row(self):
        for casts in ALL:
            middle, row = Middle(*casts), CheckRow(*casts)
            for value in SAMPLES:
                self.assertEqual(middle.reading(value) is None, row.reading(value) is None)
                self.assertEqual(middle.writing(value) is None, row.writing(value) is None)


class TestMaking(unittest.TestCase):
    def test_lent_by_lent(self):
        for casts in ALL:
            middle = Middle()
            for read, write, label in casts:
                before = (middle.read_labels, middle.write_labels)
                after = middle.lent(read, write, label)
                self.assertEqual((middle.read_labels, middle.write_labels), before)
                middle = after
            self.assertEqual(middle, Middle(*casts))
            self.assertEqual(Middle.of(CheckRow(*casts)), middle)

    def test_check_rows(self):
        middle = Middle(("small", "bit", "a"), ("nat", "small", "b"), (None, "word", "c"))
        told = [read_cast("nat", "b"), read_cast("small", "a"), write_cast("word", "c"), write_cast("bit", "a"),
                write_cast("small", "b")]
        self.assertEqual(middle.check_row(), CheckRow(*told))
        self.assertEqual(Middle().check_row(), CheckRow())
        for casts in ALL:
            middle = Middle(*casts)
            row = [read_cast(*told) for told in middle.read_labels]
            row += [write_cast(*told) for told in middle.write_labels[::-1]]
            self.assertEqual(middle.check_row(), CheckRow(*row))
            self.assertEqual(Middle.of(middle.check_row()), middle)

    def test_sums(self):
        for casts in ALL[::61]:
            for others in ALL[::53]:
                one, two = Middle(*casts), Middle(*others)
                want = one
                for read, write, label in two.check_row():
                    want = want.lent(read, write, label)
                self.assertEqual(one + two, want)
                self.assertEqual((one, two), (Middle(*casts), Middle(*others)))
        one, two = Middle(("nat", "nat", "a")), Middle(("small", "bit", "b"))
        self.assertEqual((one + two).read_labels, (("nat", "a"), ("small", "b")))
        self.assertEqual((one + two).write_labels, (("bit", "b"),))
        self.assertEqual((two + one).write_labels, (("nat", "a"), ("bit", "b")))

    def test_equal(self):
        middle = Middle(("nat", "bit", "a"))
        self.assertIs(middle == Middle(("nat", None, "a"), (None, "bit", "a")), True)
        self.assertIs(middle == Middle((None, "bit", "a"), ("nat", None, "a"), ("num", "any", "b")), True)
        for other in (Middle(), Middle(("nat", "bit", "b")), Middle(("nat", None, "a")), Middle((None, "bit", "a")),
                      Middle(("bit", "nat", "a")), middle.check_row(), None, 2, "middle"):
            self.assertIs(middle == other, False)

    def test_wrong_kinds(self):
        cases = (((("x", "y", "a"),), "x"), (((None, "y", "a"),), "y"), ((("nat", "", "a"), ("z", None, "b")), ""),
                 (((None, None, "a"), ("lent", "q", "a")), "lent"), ((("nat", "v", "a"), ("u", None, "a")), "v"))
        for casts, wrong in cases:
            with self.assertRaises(BadKind) as caught:
                Middle(*casts)
            self.assertEqual(caught.exception.kind, wrong)
        middle = Middle(("nat", None, "a"))
        for read, write, wrong in (("x", "y", "x"), (None, "y", "y"), ("nat", "y", "y"), ("x", None, "x")):
            with self.assertRaises(BadKind) as caught:
                middle.lent(read, write, "a")
            self.assertEqual(caught.exception.kind, wrong)
        self.assertEqual(middle, Middle(("nat", None, "a")))


class TestWays(unittest.TestCase):
    def test_fresh(self):
        self.assertEqual(RowCasts().fresh(), CheckRow())
        self.assertEqual(MiddleCasts().fresh(), Middle())
        self.assertIsInstance(RowCasts().fresh(), CheckRow)
        self.assertIsInstance(MiddleCasts().fresh(), Middle)


if __name__ == "__main__":
    unittest.main()
