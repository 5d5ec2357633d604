"""Both ways of the tasks part, and picks [49 to 51]."""

import itertools
import unittest

from quickways.picking import WaitTasks, WovenTasks
from quickways.weavings import next_picks

READY = [(), (1,), (1, 2), (2,)]


class TestWovenTasks(unittest.TestCase):
    def test_index_of_the_step(self):
        tasks = WovenTasks([3, 0, 1, 2])
        self.assertEqual([tasks.pick(count, READY, {}) for count in range(4)], [(2,), (), (1,), (1, 2)])

    def test_behind_the_weaving(self):
        self.assertEqual([WovenTasks([3]).pick(count, READY, {}) for count in (0, 1, 7)], [(2,), (), ()])
        self.assertEqual(WovenTasks(()).pick(0, [(1,), (2,)], {}), (1,))

    def test_remainder(self):
        tasks = WovenTasks((4, 7, 10 ** 60 + 2))
        self.assertEqual([tasks.pick(count, READY, {}) for count in range(3)], [(), (2,), (1, 2)])
        self.assertEqual([tasks.pick(count, READY[:3], {}) for count in range(3)], [(1,), (1,), ()])
        self.assertEqual([tasks.pick(count, [(5,)], {}) for count in range(3)], [(5,)] * 3)

    def test_waiting_tasks_do_not_matter(self):
        self.assertEqual(WovenTasks([1]).pick(0, READY, {(): (1,), (1,): (1, 1)}), (1,))

    def test_the_weaving_is_copied(self):
        weaving = [1, 2]
        tasks = WovenTasks(weaving)
        weaving[0] = 3
        weaving.append(4)
        self.assertEqual((tasks.weaving, tasks.pick(0, READY, {})), ((1, 2), (1,)))
        self.assertEqual(WovenTasks(()).weaving, ())


class TestWaitTasks(unittest.TestCase):
    def test_nobody_waits(self):
        for count in range(3):
            self.assertEqual(WaitTasks().pick(count, READY, {}), ())

    def test_chains(self):
        waits = {(): (2,), (2,): (2, 1), (2, 1): (2, 1, 3)}
        self.assertEqual(WaitTasks().pick(0, [(1,), (2, 1, 3)], waits), (2, 1, 3))
        self.assertEqual(WaitTasks().pick(0, [(1,), (2,)], {(): (2,)}), (2,))
        self.assertEqual(waits, {(): (2,), (2,): (2, 1), (2, 1): (2, 1, 3)})

    def test_others_that_wait(self):
        self.assertEqual(WaitTasks().pick(0, [()], {(1,): (1, 1), (2,): (2, 1)}), ())
        self.assertEqual(WaitTasks().pick(5, [(1,)], {(): (1,), (2,): (2, 1)}), (1,))


class TestNextPicks(unittest.TestCase):
    def test_last_pick_that_can_be_raised(self):
        self.assertEqual(next_picks([0, 0, 0], [2, 2, 2]), [0, 0, 1])
        self.assertEqual(next_picks([0, 0, 1], [2, 2, 2]), [0, 1])
        self.assertEqual(next_picks([0, 1, 1], [2, 2, 2]), [1])
        self.assertEqual(next_picks([1, 0, 2], [3, 2, 3]), [1, 1])

    def test_missing_picks(self):
        self.assertEqual(next_picks([], [2, 1, 3, 1]), [0, 0, 1])
        self.assertEqual(next_picks([1], [2, 1, 3, 1]), [1, 0, 1])
        self.assertEqual(next_picks([0, 0, 2], [2, 1, 3, 1]), [1])
        self.assertEqual(next_picks([], [4]), [1])

    def test_none(self):
        for picks, options in (([], []), ([], [1, 1]), ([0], [1]), ([1, 2], [2, 3]), ([1, 0, 2], [2, 1, 3]),
                               ([1, 2], [2, 3, 1])):
            self.assertIsNone(next_picks(picks, options))

    def test_all_picks_once_in_ascending_order(self):
        for options in ([2, 3, 2], [1, 4], [3, 1, 1, 2], [1], [2, 2, 2, 2], []):
            found = []
            picks = []
            while picks is not None:
                found.append(tuple(picks + [0] * (len(options) - len(picks))))
                picks = next_picks(picks, options)
            self.assertEqual(found, list(itertools.product(*[range(option) for option in options])))

    def test_arguments_stay(self):
        picks, options = [0, 1], [2, 2, 2]
        made = next_picks(picks, options)
        made.append(7)
        self.assertEqual((picks, options), ([0, 1], [2, 2, 2]))


if __name__ == "__main__":
    unittest.main()
