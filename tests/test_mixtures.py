"""Parts, ways and mixtures [18]."""

import unittest
from itertools import product

from quickways.errors import BadPart, BadText, BadWay
from quickways.mixtures import PARTS, WAYS, Mixture, all_mixtures

NAMES = ("casts", "loans", "exits", "tasks", "watch")
TABLE = {sum(1 << at for at in range(5) if ways[at] == "quick"): ways for ways in product(("plain", "quick"), repeat=5)}


class MixtureTest(unittest.TestCase):
    def refused(self, error, told, call_it):
        with self.assertRaises(error) as caught:
            call_it()
        self.assertEqual(list(vars(caught.exception).values()), [told])


class TestMaking(MixtureTest):
    def test_tables(self):
        self.assertEqual(PARTS, NAMES)
        self.assertEqual(WAYS, ("plain", "quick"))
        self.assertEqual(Mixture.COUNT, 32)

    def test_all_mixtures(self):
        self.assertEqual(sorted(TABLE), list(range(32)))
        for number, ways in TABLE.items():
            with self.subTest(number):
                told = dict(zip(NAMES, ways))
                quick = tuple(part for part in NAMES if told[part] == "quick")
                made = Mixture(**told)
                for other in (Mixture.numbered(number), Mixture.of(*quick), Mixture.of(*quick[::-1], *quick),
                              Mixture.read(" ".join(ways)), made.twin()):
                    self.assertTrue(made == other)
                    self.assertEqual(tuple(other), ways)
                    self.assertIsNot(made, other)
                self.assertEqual(made.number, number)
                self.assertEqual(str(made), " ".join(ways))
                self.assertEqual(made.quick_parts(), quick)
                self.assertEqual([made[part] for part in NAMES], list(ways))
        self.assertEqual([mixture.number for mixture in all_mixtures()], list(range(32)))

    def test_defaults(self):
        self.assertEqual(tuple(Mixture()), ("plain",) * 5)
        self.assertEqual(tuple(Mixture(exits="quick")), ("plain", "plain", "quick", "plain", "plain"))
        self.assertEqual(Mixture.of(), Mixture())

    def test_new_objects(self):
        first, second = [list(all_mixtures()) for _ in range(2)]
        first[0] ^= "casts"
        self.assertEqual(second[0].number, 0)
        self.assertEqual(next(iter(all_mixtures())).number, 0)
        self.assertEqual(len({id(made) for made in first + second}), 64)

    def test_wrong_ways(self):
        self.refused(BadWay, "x", lambda: Mixture(loans="x", watch="y"))
        self.refused(BadWay, "y", lambda: Mixture(watch="y"))
        self.refused(BadWay, "z", lambda: Mixture(watch="x", tasks="y", casts="z"))
        for wrong in ("", "Plain", "quick "):
            self.refused(BadWay, wrong, lambda: Mixture(casts=wrong))

    def test_wrong_parts_and_numbers(self):
        self.refused(BadPart, "cast", lambda: Mixture.of("casts", "cast", "x"))
        self.refused(BadPart, "", lambda: Mixture.of(""))
        for number in (-1, 32, 33, 100):
            self.refused(BadWay, number, lambda: Mixture.numbered(number))

    def test_wrong_texts(self):
        plain = "plain plain plain plain plain"
        for text in ("", "plain", plain[6:], plain + " plain", plain + " ", " " + plain, plain.replace(" ", "  ", 1),
                     plain.upper(), plain.replace("plain", "x", 1), plain + "\n", plain[:-1]):
            self.refused(BadText, 1, lambda: Mixture.read(text))


class TestOperators(MixtureTest):
    def test_items(self):
        made = Mixture()
        for part in NAMES:
            made[part] = "quick"
            self.assertEqual(made[part], "quick")
        self.assertEqual(made.number, 31)
        made["loans"] = "plain"
        made["loans"] = "plain"
        self.assertEqual(made.number, 29)

    def test_item_errors(self):
        made = Mixture.of("tasks")
        self.refused(BadPart, "task", lambda: made["task"])
        self.refused(BadPart, "task", lambda: made.__setitem__("task", "quick"))
        self.refused(BadPart, "task", lambda: made.__setitem__("task", "x"))
        self.refused(BadWay, "x", lambda: made.__setitem__("casts", "x"))
        self.assertEqual(made, Mixture.of("tasks"))

    def test_invert(self):
        for made in all_mixtures():
            number = made.number
            self.assertEqual((~made).number, 31 - number)
            self.assertEqual(made.number, number)
            self.assertEqual(~~made, made)

    def test_xor(self):
        for made in all_mixtures():
            number = made.number
            for at, part in enumerate(NAMES):
                other = made ^ part
                self.assertEqual(other.number, number ^ (1 << at))
                self.assertEqual(made.number, number)
                other ^= part
                self.assertEqual(other, made)
                self.assertIsNot(other, made)

    def test_xor_in_place(self):
        made = same = Mixture()
        made ^= "exits"
        self.assertIs(made, same)
        self.assertEqual(same.number, 4)
        made ^= "exits"
        self.assertEqual(same.number, 0)

    def test_xor_errors(self):
        made = Mixture.of("watch")
        self.refused(BadPart, "x", lambda: made ^ "x")
        self.refused(BadPart, "quick", lambda: made.__ixor__("quick"))
        self.assertEqual(made, Mixture.of("watch"))

    def test_equal(self):
        self.assertIs(Mixture() == Mixture(), True)
        self.assertIs(Mixture() == Mixture.of("casts"), False)
        for other in (None, 0, "plain plain plain plain plain", ("plain",) * 5, ["plain"] * 5):
            self.assertIs(Mixture() == other, False)

    def test_parts_from(self):
        self.assertEqual(Mixture().parts_from(Mixture()), ())
        self.assertEqual(Mixture.of("watch", "casts").parts_from(Mixture.of("casts", "exits")), ("exits", "watch"))
        self.assertEqual(Mixture().parts_from(Mixture.numbered(31)), NAMES)

    def test_twin_is_apart(self):
        made = Mixture.of("loans")
        other = made.twin()
        other ^= "loans"
        self.assertEqual((made.number, other.number), (2, 0))


if __name__ == "__main__":
    unittest.main()
