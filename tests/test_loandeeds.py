"""Loan deeds [37 to 40]."""

import unittest

from quickways.cells import AddressLoans, CopyLoans
from quickways.errors import BadDeed, NoEntry
from quickways.loandeeds import both_ways, first_untidy, parted_read, play, straightened, surrounded

STORE = [("a", 1), ("b", 2)]
MARK = 77


def begin(key, target):
    return ("begin", key, target)


def read(spot):
    return ("read", spot)


def write(spot, value):
    return ("write", spot, value)


def over(key):
    return ("over", key)


# Deeds that do not fit, each behind the deeds in front of it.
FRONT = [begin("k", "a"), begin("l", "k"), over("l"), read("k")]
WRONG = [begin("k", "b"), begin("l", "b"), begin("a", "b"), begin("m", "l"), begin("m", "none"), begin("m", "m"),
         read("l"), read("none"), write("l", 5), write("none", 5), over("l"), over("a"), over("none"), over("m")]


def some_deeds(length):
    """All lists of deeds of a length that fit, over one place, with keys k0, k1 and so on."""
    if length == 0:
        yield []
        return
    for front in some_deeds(length - 1):
        loans = AddressLoans([("a", 0)])
        play(loans, front)
        keys = loans.open_loans()
        for spot in ["a"] + keys:
            yield front + [begin(f"k{length}", spot)]
            yield front + [read(spot)]
            yield front + [write(spot, length)]
        for key in keys:
            yield front + [over(key)]


class DeedTest(unittest.TestCase):
    def refused(self, at, call_it):
        with self.assertRaises(BadDeed) as caught:
            call_it()
        self.assertEqual(caught.exception.at, at)
        self.assertIsInstance(caught.exception.__cause__, NoEntry)


class TestPlay(DeedTest):
    def test_values(self):
        deeds = (begin("k", "a"), write("k", 5), read("a"), read("k"), read("b"), over("k"), read("a"))
        self.assertEqual(play(AddressLoans(STORE), deeds), [5, 5, 2, 5])
        self.assertEqual(play(CopyLoans(STORE), list(deeds)), [1, 5, 2, 5])
        self.assertEqual(play(CopyLoans(STORE), []), [])

    def test_the_loans_change(self):
        loans = CopyLoans(STORE)
        play(loans, [begin("k", "a"), write("k", 5)])
        self.assertEqual((loans.value_at("k"), loans.value_at("a"), loans.open_loans()), (5, 1, ["k"]))
        self.assertEqual(play(loans, [over("k"), read("a")]), [5])

    def test_deeds_that_do_not_fit(self):
        for kind in (AddressLoans, CopyLoans):
            for wrong in WRONG:
                loans = kind(STORE)
                self.refused(4, lambda: play(loans, FRONT + [wrong, write("a", 9)]))
                self.assertEqual(loans.open_loans(), ["k"])
                self.assertEqual(loans.value_at("a"), 1)
                self.refused(0, lambda: play(loans, [wrong]))

    def test_the_deeds_in_front_have_been_done(self):
        loans = AddressLoans(STORE)
        self.refused(2, lambda: play(loans, [write("a", 5), begin("k", "b"), read("none"), write("b", 6)]))
        self.assertEqual([loans.value_at(spot) for spot in ("a", "b", "k")], [5, 2, 2])


class TestBothWays(DeedTest):
    def test_reads(self):
        deeds = [read("a"), begin("k", "a"), write("k", 5), read("k"), read("a"), over("k"), read("a"), read("b")]
        told = [(0, 1, 1), (3, 5, 5), (4, 5, 1), (6, 5, 5), (7, 2, 2)]
        self.assertEqual(list(both_ways(STORE, deeds)), told)
        self.assertEqual(list(both_ways(STORE, tuple(deeds))), told)
        self.assertEqual(parted_read(STORE, deeds), 4)
        self.assertEqual(parted_read(tuple(STORE), tuple(deeds[:4] + deeds[5:])), None)
        self.assertIsNone(parted_read(STORE, []))

    def test_the_error_comes_when_the_deed_comes(self):
        for wrong in WRONG:
            told = both_ways(STORE, [read("a")] + FRONT + [wrong])
            self.assertEqual(next(told), (0, 1, 1))
            self.assertEqual(next(told), (4, 1, 1))
            self.refused(5, lambda: next(told))
        both_ways(STORE, [read("none")])

    def test_parted_read_looks_at_the_whole_list(self):
        for wrong in WRONG:
            self.refused(4, lambda: parted_read(STORE, FRONT + [wrong]))
        deeds = [begin("k", "a"), write("k", 5), read("a"), read("none"), read("other")]
        self.assertEqual(parted_read(STORE, deeds[:3]), 2)
        self.refused(3, lambda: parted_read(STORE, deeds))


class TestTidy(DeedTest):
    def test_each_form(self):
        front = [begin("k", "a"), begin("l", "k")]
        for deed in (begin("m", "a"), begin("m", "k"), read("a"), read("k"), write("a", 5), write("k", 5), over("k")):
            self.assertEqual(first_untidy(STORE, front + [deed]), 2, deed)
        for deed in (begin("m", "l"), begin("m", "b"), read("l"), read("b"), write("l", 5), write("b", 5), over("l")):
            self.assertIsNone(first_untidy(STORE, tuple(front + [deed])), deed)

    def test_the_first_one(self):
        deeds = [read("a"), begin("k", "a"), read("k"), read("a"), over("k"), read("a"), begin("l", "b"), read("b")]
        self.assertEqual(first_untidy(STORE, deeds), 3)
        self.assertEqual(first_untidy(STORE, deeds[:3] + deeds[4:]), 6)
        self.assertIsNone(first_untidy(STORE, deeds[:3] + deeds[4:7]))
        self.assertIsNone(first_untidy(STORE, []))

    def test_loans_that_have_ended_do_not_count(self):
        deeds = [begin("k", "a"), begin("l", "k"), over("l"), read("k"), over("k"), read("a")]
        self.assertIsNone(first_untidy(STORE, deeds))

    def test_deeds_that_do_not_fit(self):
        for wrong in WRONG:
            self.refused(4, lambda: first_untidy(STORE, FRONT + [wrong]))
            for function in (first_untidy, straightened, lambda places, deeds: surrounded(places, deeds, mark=MARK)):
                self.refused(5, lambda: function(STORE, FRONT + [read("a"), wrong, read("no")]))
        for wrong in WRONG[2:]:
            for function in (first_untidy, straightened, lambda places, deeds: surrounded(places, deeds, mark=MARK)):
                self.refused(0, lambda: function(STORE, (wrong,)))


class TestSurrounded(DeedTest):
    def check(self, deeds, *wanted):
        for given in (deeds, tuple(deeds)):
            self.assertEqual(surrounded(STORE, given, mark=MARK), list(wanted))

    def test_tidy_deeds(self):
        self.assertIsNone(surrounded(STORE, [], mark=MARK))
        self.assertIsNone(surrounded(STORE, [begin("k", "a"), read("k")], mark=MARK))

    def test_the_four_forms(self):
        one = [read("a"), begin("k", "a")]
        self.check(one + [begin("l", "a"), read("b")], *one, write("k", MARK), begin("l", "a"), read("l"))
        self.check(one + [read("a"), read("b")], *one, write("k", MARK), read("a"))
        self.check(one + [write("a", 5), read("b")], *one, write("a", MARK), read("k"))
        two = one + [begin("l", "k")]
        self.check(two + [over("k"), read("a")], *two, over("k"), write("l", MARK), read("a"))

    def test_the_end_over_several_loans(self):
        chain = [begin("k", "a"), begin("l", "k"), begin("m", "l"), begin("x", "b")]
        self.check(chain + [begin("n", "a")], *chain, write("m", MARK), begin("n", "a"), read("n"))
        self.check(chain + [begin("n", "k")], *chain, write("m", MARK), begin("n", "k"), read("n"))
        self.check(chain + [read("k")], *chain, write("m", MARK), read("k"))
        self.check(chain + [write("k", 5)], *chain, write("k", MARK), read("m"))
        self.check(chain + [over("k")], *chain, over("k"), write("m", MARK), read("a"))
        self.check(chain + [over("l")], *chain, over("l"), write("m", MARK), read("k"))

    def test_the_end_behind_a_loan_that_has_ended(self):
        front = [begin("z", "a"), over("z"), begin("y", "a"), begin("x", "y")]
        self.check(front + [read("a")], *front, write("x", MARK), read("a"))

    def test_every_surrounding_parts_the_two_ways(self):
        for length in range(5):
            for deeds in some_deeds(length):
                made = surrounded([("a", 0)], deeds, mark=MARK)
                untidy = first_untidy([("a", 0)], deeds)
                self.assertEqual(made is None, untidy is None)
                if made is None:
                    self.assertIsNone(parted_read([("a", 0)], deeds), deeds)
                else:
                    self.assertEqual(parted_read([("a", 0)], made), len(made) - 1, deeds)
                    self.assertEqual(made[:untidy], deeds[:untidy])


class TestStraightened(DeedTest):
    def test_tidy_deeds_stay(self):
        deeds = [begin("k", "a"), read("k"), begin("l", "k"), write("l", 5), over("l"), over("k"), read("a"), read("b")]
        self.assertEqual(straightened(STORE, deeds), deeds)
        self.assertEqual(straightened(STORE, tuple(deeds)), deeds)
        self.assertEqual(straightened(STORE, ()), [])

    def test_other_deeds(self):
        deeds = [begin("k", "a"), begin("l", "a"), read("a"), write("k", 5), begin("x", "b"), over("k"), read("l"), write("b", 6),
                 over("l"), read("a"), read("x")]
        made = [begin("k", "a"), begin("l", "k"), read("l"), write("l", 5), begin("x", "b"), over("l"), read("k"), write("x", 6),
                over("k"), read("a"), read("x")]
        self.assertEqual(straightened(STORE, deeds), made)

    def test_all_short_lists(self):
        for length in range(5):
            for deeds in some_deeds(length):
                made = straightened([("a", 0)], deeds)
                self.assertIsNone(first_untidy([("a", 0)], made), deeds)
                self.assertEqual(play(AddressLoans([("a", 0)]), made), play(AddressLoans([("a", 0)]), deeds))
                self.assertEqual([deed[0] for deed in made], [deed[0] for deed in deeds])


if __name__ == "__main__":
    unittest.main()
