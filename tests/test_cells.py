"""The two ways of the loans part [34 to 36]."""

import unittest

from quickways.cells import AddressLoans, CopyLoans
from quickways.errors import NoEntry

BOTH = (AddressLoans, CopyLoans)
STORE = [("a", 1), ("b", "red"), ("c", -50)]


def state(loans):
    """All that loans tell."""
    spots = [text for text, _ in STORE] + loans.open_loans()
    return ([(spot, loans.value_at(spot), loans.root(spot), loans.loans_on(spot)) for spot in spots], loans.room)


class LoansTest(unittest.TestCase):
    def refused(self, told, loans, *calls):
        before = state(loans)
        for call_it in calls:
            with self.assertRaises(NoEntry) as caught:
                call_it()
            self.assertEqual(caught.exception.name, told)
            self.assertEqual(state(loans), before)


class TestBothWays(LoansTest):
    def test_places(self):
        for kind in BOTH:
            loans = kind(STORE)
            self.assertEqual([loans.value_at(text) for text in "abc"], [1, "red", -50])
            self.assertEqual([loans.root(text) for text in "abc"], ["a", "b", "c"])
            self.assertEqual([loans.loans_on(text) for text in "abc"], [[], [], []])
            self.assertEqual((loans.open_loans(), loans.room), ([], 0))
            self.assertEqual(loans.set_at("b", 7), "b")
            self.assertEqual([loans.value_at(text) for text in "abc"], [1, 7, -50])
            self.assertEqual(kind([]).open_loans(), [])

    def test_loans_on_loans(self):
        for kind in BOTH:
            loans = kind(STORE)
            self.assertIsNone(loans.begin("k", "a"))
            self.assertIsNone(loans.begin("l", "k"))
            self.assertIsNone(loans.begin("m", "a"))
            self.assertIsNone(loans.begin("n", "b"))
            self.assertEqual([loans.root(spot) for spot in ("a", "k", "l", "m", "n")], ["a", "a", "a", "a", "b"])
            self.assertEqual(loans.loans_on("a"), ["k", "m"])
            self.assertEqual(loans.loans_on("k"), ["l"])
            self.assertEqual(loans.loans_on("l"), [])
            self.assertEqual(loans.open_loans(), ["k", "l", "m", "n"])
            self.assertEqual([loans.value_at(spot) for spot in ("k", "l", "m", "n")], [1, 1, 1, "red"])
            loans.over("k")
            self.assertEqual(loans.open_loans(), ["l", "m", "n"])
            self.assertEqual(loans.loans_on("a"), ["m"])
            self.assertEqual(loans.root("l"), "a")

    def test_open_loans_stand_in_the_order_of_their_beginning(self):
        for kind in BOTH:
            loans = kind(STORE)
            for key in ("z", "y", "x"):
                loans.begin(key, "c")
            loans.over("y")
            loans.begin("w", "c")
            self.assertEqual(loans.open_loans(), ["z", "x", "w"])
            self.assertEqual(loans.loans_on("c"), ["z", "x", "w"])

    def test_keys_are_used_once(self):
        for kind in BOTH:
            loans = kind(STORE)
            loans.begin("k", "a")
            self.refused("k", loans, lambda: loans.begin("k", "b"), lambda: loans.begin("k", "none"))
            loans.over("k")
            self.refused("k", loans, lambda: loans.begin("k", "b"), lambda: loans.begin("k", "none"))
            self.refused("a", loans, lambda: loans.begin("a", "b"), lambda: loans.begin("a", "none"))

    def test_spots_that_are_none(self):
        for kind in BOTH:
            loans = kind(STORE)
            loans.begin("k", "a")
            loans.begin("l", "k")
            loans.over("k")
            for wrong in ("k", "none", ""):
                self.refused(wrong, loans, lambda: loans.begin("new", wrong), lambda: loans.value_at(wrong),
                             lambda: loans.set_at(wrong, 5), lambda: loans.over(wrong), lambda: loans.root(wrong),
                             lambda: loans.loans_on(wrong))
            self.refused("new", loans, lambda: loans.begin("new", "new"))
            self.assertIsNone(loans.begin("new", "a"))
            self.refused("a", loans, lambda: loans.over("a"))


class TestAddresses(LoansTest):
    def test_one_value_for_all(self):
        loans = AddressLoans(STORE)
        loans.begin("k", "a")
        loans.begin("l", "k")
        self.assertEqual(loans.set_at("l", 2), "a")
        self.assertEqual([loans.value_at(spot) for spot in ("a", "k", "l", "b")], [2, 2, 2, "red"])
        self.assertEqual(loans.set_at("a", "x"), "a")
        self.assertEqual([loans.value_at(spot) for spot in ("a", "k", "l")], ["x", "x", "x"])
        self.assertEqual(loans.room, 0)

    def test_ends_in_both_orders(self):
        for order in (("k", "l"), ("l", "k")):
            loans = AddressLoans(STORE)
            loans.begin("k", "a")
            loans.begin("l", "k")
            loans.set_at("k", 2)
            for key in order:
                self.assertIsNone(loans.over(key))
                self.assertEqual(loans.value_at("a"), 2)
            self.assertEqual((loans.open_loans(), loans.room), ([], 0))

    def test_a_loan_on_a_loan_that_has_ended(self):
        loans = AddressLoans(STORE)
        loans.begin("k", "a")
        loans.begin("l", "k")
        loans.over("k")
        self.assertEqual(loans.set_at("l", 9), "a")
        self.assertEqual(loans.value_at("a"), 9)
        self.assertIsNone(loans.over("l"))


class TestCopies(LoansTest):
    def test_values_of_their_own(self):
        loans = CopyLoans(STORE)
        loans.begin("k", "a")
        self.assertEqual(loans.room, 1)
        self.assertIsNone(loans.set_at("k", 2))
        loans.begin("l", "k")
        self.assertIsNone(loans.set_at("l", 3))
        self.assertEqual(loans.set_at("a", 4), "a")
        self.assertEqual([loans.value_at(spot) for spot in ("a", "k", "l")], [4, 2, 3])
        self.assertEqual(loans.room, 2)

    def test_ends_from_the_outside(self):
        loans = CopyLoans(STORE)
        loans.begin("k", "a")
        loans.begin("l", "k")
        loans.set_at("l", 3)
        self.assertIsNone(loans.over("l"))
        self.assertEqual([loans.value_at(spot) for spot in ("a", "k")], [1, 3])
        self.assertEqual(loans.room, 1)
        self.assertEqual(loans.over("k"), "a")
        self.assertEqual((loans.value_at("a"), loans.room), (3, 0))

    def test_ends_from_the_inside(self):
        loans = CopyLoans(STORE)
        loans.begin("k", "a")
        loans.begin("l", "k")
        loans.set_at("l", 3)
        loans.set_at("k", 2)
        self.assertEqual(loans.over("k"), "a")
        self.assertEqual([loans.value_at(spot) for spot in ("a", "l")], [2, 3])
        self.assertIsNone(loans.over("l"))
        self.assertEqual(loans.value_at("a"), 2)

    def test_two_loans_on_one_place(self):
        loans = CopyLoans(STORE)
        loans.begin("k", "b")
        loans.set_at("b", "blue")
        loans.begin("l", "b")
        self.assertEqual([loans.value_at(spot) for spot in ("k", "l")], ["red", "blue"])
        self.assertEqual(loans.over("l"), "b")
        self.assertEqual(loans.over("k"), "b")
        self.assertEqual(loans.value_at("b"), "red")


if __name__ == "__main__":
    unittest.main()
