"""Atoms and kinds [4, 5] and what a list of kinds implies [29]."""

import unittest

from quickways import kinds
from quickways.errors import BadKind

ATOMS = {
    "any": {0, 1, 2, 3, 4, 5},
    "num": {0, 1, 2, 3, 4},
    "nat": {2, 3, 4},
    "small": {1, 2, 3},
    "digit": {2, 3},
    "bit": {2},
    "word": {5},
}
NAMES = ("any", "num", "nat", "small", "digit", "bit", "word")
PAIRS = [(kind, other) for kind in NAMES for other in NAMES]
BOUNDS = {-10 ** 40: 0, -11: 0, -10: 0, -9: 1, -1: 1, 0: 2, 1: 2, 2: 3, 9: 3, 10: 4, 11: 4, 10 ** 40: 4, "a": 5, "z": 5}


def least(atoms):
    """The kind that has these atoms and lies under every other such kind."""
    found = [kind for kind in NAMES if ATOMS[kind] >= atoms]
    (kind,) = [kind for kind in found if all(ATOMS[kind] <= ATOMS[other] for other in found)]
    return kind


class TestKinds(unittest.TestCase):
    def test_tables(self):
        self.assertEqual(kinds.KINDS, NAMES)
        self.assertEqual(kinds.SAMPLES, (-50, -5, 1, 5, 50, "a"))
        for atom, sample in enumerate(kinds.SAMPLES):
            self.assertEqual(kinds.atom_of(sample), atom)

    def test_atoms_of_values(self):
        for value, atom in BOUNDS.items():
            self.assertEqual(kinds.atom_of(value), atom, value)

    def test_atoms_of_kinds(self):
        for kind in NAMES:
            self.assertEqual(kinds.atoms_of(kind), tuple(sorted(ATOMS[kind])))

    def test_fits(self):
        for value, atom in BOUNDS.items():
            for kind in NAMES:
                self.assertIs(kinds.fits(value, kind), atom in ATOMS[kind], (value, kind))

    def test_least_kind(self):
        told = {-10: "num", -9: "small", -1: "small", 0: "bit", 1: "bit", 2: "digit", 9: "digit", 10: "nat", "a": "word"}
        for value, kind in told.items():
            self.assertEqual(kinds.least_kind(value), kind)
        for value, atom in BOUNDS.items():
            self.assertEqual(kinds.least_kind(value), least({atom}))

    def test_all_pairs(self):
        for kind, other in PAIRS:
            with self.subTest(kind, other=other):
                one, two = ATOMS[kind], ATOMS[other]
                self.assertIs(kinds.under(kind, other), one <= two)
                shared = [name for name in NAMES if ATOMS[name] == one & two]
                self.assertEqual(kinds.meet(kind, other), shared[0] if shared else None)
                self.assertEqual(kinds.meet(kind, other) is None, not one & two)
                self.assertEqual(kinds.join(kind, other), least(one | two))
                odd = not one <= two and not two <= one and one | two != ATOMS["any"]
                self.assertIs(kinds.at_odds(kind, other), odd)

    def test_at_odds_as_listed(self):
        odd = {frozenset(pair) for pair in PAIRS if kinds.at_odds(*pair)}
        listed = {("nat", "small"), ("word", "nat"), ("word", "small"), ("word", "digit"), ("word", "bit")}
        self.assertEqual(odd, {frozenset(pair) for pair in listed})

    def test_implies(self):
        for kind in NAMES:
            self.assertIs(kinds.implies([], kind), kind == "any")
            self.assertIs(kinds.implies(["num", "word"], kind), True)
            self.assertIs(kinds.implies(["nat", "small"], kind), kind in ("any", "num", "nat", "small", "digit"))
            self.assertIs(kinds.implies(["bit"], kind), kind != "word")

    def test_strings_that_are_no_kinds(self):
        for wrong in ("", "lent", "Any", "any ", "integer", "wor"):
            for call in (
                lambda: kinds.atoms_of(wrong),
                lambda: kinds.fits(1, wrong),
                lambda: kinds.fits("a", wrong),
            ):
                with self.assertRaises(BadKind) as caught:
                    call()
                self.assertEqual(caught.exception.kind, wrong)
            for two in (kinds.under, kinds.meet, kinds.join, kinds.at_odds):
                for kind, other, told in ((wrong, "any", wrong), ("any", wrong, wrong), (wrong, "zzz", wrong),
                                          ("zzz", wrong, "zzz"), ("bit", wrong, wrong), (wrong, "bit", wrong)):
                    with self.subTest(two.__name__, kind=kind, other=other):
                        with self.assertRaises(BadKind) as caught:
                            two(kind, other)
                        self.assertEqual(caught.exception.kind, told)


if __name__ == "__main__":
    unittest.main()
