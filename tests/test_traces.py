"""Traces: free events, exchanges, normal forms, layers and chains [52 to 54]."""

import itertools
import random
import unittest

from quickways.errors import TooLarge
from quickways.traces import alike_to, alike_traces, exchanges, free, layers, longest_chain, normal, parting_pair
from quickways.traces import swaps, trace_of


def event(task, reads="", writes=""):
    return (task, tuple(reads.split()), tuple(writes.split()))


A = event("0", "a", "x")
B = event("0.1", "b", "y")
C = event("0.2", "a", "z")
D = event("0.2", "", "a")


def alike_set(trace):
    """All traces to which exchanges lead."""
    known, left = {trace}, [trace]
    while left:
        one = left.pop()
        for at in range(len(one) - 1):
            if free(one[at], one[at + 1]):
                other = one[:at] + (one[at + 1], one[at]) + one[at + 2:]
                if other not in known:
                    known.add(other)
                    left.append(other)
    return known


def tasks_of(trace):
    return [one[0] for one in trace]


def random_trace(rng, most=6):
    found = []
    for _ in range(rng.randrange(most + 1)):
        reads = rng.sample("abc", rng.randrange(2))
        writes = rng.sample("abc", rng.randrange(2))
        found.append((rng.choice(("0", "0.1", "0.2", "0.10")), tuple(sorted(reads)), tuple(sorted(writes))))
    return tuple(found)


TRACES = [random_trace(random.Random(seed)) for seed in range(250)]


class TestEvents(unittest.TestCase):
    def test_trace_of(self):
        records = [("0", "row", "main", 1, "", ("a",), ("a", "task 0")),
                   ("0.1", "end", "f", 0, "f.2", (), ("task 0.1",))]
        wanted = (("0", ("a",), ("a", "task 0")), ("0.1", (), ("task 0.1",)))
        self.assertEqual(trace_of(records), wanted)
        self.assertEqual(trace_of(tuple(records)), wanted)
        self.assertEqual((trace_of([]), trace_of(())), ((), ()))

    def test_free(self):
        for one, other, wanted in (
                (A, B, True), (A, C, True), (A, D, False), (B, D, True), (C, D, False), (A, A, False),
                (event("0"), event("0"), False), (event("0"), event("1"), True),
                (event("0", "a b"), event("1", "b a"), True),
                (event("0", "a b"), event("1", "c", "d b"), False),
                (event("0", "a", "b c"), event("1", "c", "d"), False),
                (event("0", "", "a b"), event("1", "", "c b"), False),
                (event("0", "a", "b"), event("1", "a", "c"), True)):
            self.assertIs(free(one, other), wanted)
            self.assertIs(free(other, one), wanted)

    def test_exchanges(self):
        self.assertEqual(list(exchanges((A, B, C))), [(B, A, C), (A, C, B)])
        self.assertEqual(list(exchanges((A, D, B))), [(A, B, D)])
        self.assertEqual(list(exchanges((A, D))), [])
        self.assertEqual((list(exchanges((A,))), list(exchanges(()))), ([], []))


class TestAlike(unittest.TestCase):
    def test_normal(self):
        self.assertEqual(normal((C, B, A)), (A, B, C))
        self.assertEqual(normal((D, B, A)), (B, D, A))
        self.assertEqual(normal((B, D, A)), (B, D, A))
        self.assertEqual(normal(()), ())

    def test_tasks_are_compared_as_strings(self):
        self.assertEqual(normal((event("0.9"), event("0.10"))), (event("0.10"), event("0.9")))

    def test_against_all_exchanges(self):
        for trace in TRACES:
            known = alike_set(trace)
            first = min(known, key=tasks_of)
            self.assertEqual(normal(trace), first)
            for other in list(known)[:20]:
                self.assertIs(alike_traces(trace, other), True)
                self.assertEqual(normal(other), first)

    def test_traces_of_the_same_events(self):
        for trace in TRACES:
            known = alike_set(trace)
            for other in itertools.islice(itertools.permutations(trace), 60):
                self.assertIs(alike_traces(trace, other), other in known)

    def test_not_alike(self):
        self.assertIs(alike_traces((A, B), (A,)), False)
        self.assertIs(alike_traces((), (A,)), False)
        self.assertIs(alike_traces((A, D), (D, A)), False)
        self.assertIs(alike_traces((A, A), (A, B)), False)
        self.assertIs(alike_traces((), ()), True)


class TestAlikeTo(unittest.TestCase):
    def told(self, trace, **more):
        found = []
        try:
            for one in alike_to(trace, **more):
                found.append(one)
        except TooLarge as why:
            return found, why.most
        return found, None

    def test_all_in_order(self):
        for trace in TRACES:
            wanted = sorted(alike_set(trace), key=tasks_of)
            self.assertEqual(self.told(trace, most=800), (wanted, None))

    def test_most(self):
        trace = (A, B, C)
        wanted = sorted(alike_set(trace), key=tasks_of)
        self.assertEqual(len(wanted), 6)
        self.assertEqual(self.told(trace, most=6), (wanted, None))
        for most in (0, 1, 5):
            self.assertEqual(self.told(trace, most=most), (wanted[:most], most))
        self.assertEqual((self.told(()), self.told((), most=0)), (([()], None), ([], 0)))
        self.assertEqual(self.told((A,), most=1), ([(A,)], None))

    def test_200_is_the_default(self):
        many = tuple(event(f"0.{at}") for at in range(6))
        found, most = self.told(many)
        self.assertEqual((len(found), most), (200, 200))
        self.assertEqual(found, [tuple(one) for one in itertools.islice(itertools.permutations(many), 200)])


class TestSwaps(unittest.TestCase):
    def test_examples(self):
        self.assertEqual(swaps((A, B), (B, A)), (0,))
        self.assertEqual(swaps((A, B), (A, B)), ())
        self.assertEqual(swaps((), ()), ())
        self.assertIsNone(swaps((A, D), (D, A)))
        self.assertIsNone(swaps((A,), (A, B)))

    def test_as_short_as_can_be(self):
        for trace in TRACES:
            shortest = self.distances(trace)
            for other in list(shortest)[:25]:
                found = swaps(trace, other)
                self.assertEqual(len(found), shortest[other])
                self.assertEqual(self.done(trace, found), other)

    def distances(self, trace):
        known, left = {trace: 0}, [trace]
        for one in left:
            for other in exchanges(one):
                if other not in known:
                    known[other] = known[one] + 1
                    left.append(other)
        return known

    def done(self, trace, indexes):
        for at in indexes:
            self.assertTrue(free(trace[at], trace[at + 1]))
            trace = trace[:at] + (trace[at + 1], trace[at]) + trace[at + 2:]
        return trace

    def test_equal_events(self):
        trace = (A, B, A, C)
        self.assertEqual(self.done(trace, swaps(trace, (B, A, C, A))), (B, A, C, A))


class TestPartingPairs(unittest.TestCase):
    def parts(self, pair, one, other):
        self.assertTrue(pair[0] == pair[1] or not free(*pair))
        return [found for found in one if found in pair] != [found for found in other if found in pair]

    def test_examples(self):
        self.assertIsNone(parting_pair((A, B), (B, A)))
        self.assertIsNone(parting_pair((), ()))
        self.assertEqual(sorted(parting_pair((A, B, D), (D, B, A))), sorted((A, D)))
        self.assertEqual(parting_pair((A, B), (A, B, B)), (B, B))
        self.assertEqual(parting_pair((A, B, B), (A, B)), (B, B))
        self.assertEqual(parting_pair((A,), ()), (A, A))
        self.assertEqual(parting_pair((), (A,)), (A, A))

    def test_against_alike_traces(self):
        rng = random.Random(5)
        for trace in TRACES:
            others = list(itertools.islice(itertools.permutations(trace), 40)) + rng.choices(TRACES, k=5)
            others += [trace[:-1], trace + trace[:1]]
            for other in others:
                pair = parting_pair(trace, other)
                self.assertIs(pair is None, alike_traces(trace, other))
                if pair is not None:
                    self.assertTrue(self.parts(pair, trace, other))


class TestLayers(unittest.TestCase):
    def test_examples(self):
        self.assertEqual(layers(()), ())
        self.assertEqual(layers((B, A, C)), ((A, B, C),))
        self.assertEqual(layers((C, B, D, A)), ((B, C), (D,), (A,)))
        self.assertEqual(layers((A, A)), ((A,), (A,)))

    def test_against_the_words(self):
        for trace in TRACES:
            numbers = []
            for at, one in enumerate(trace):
                held = [numbers[k] for k in range(at) if not free(trace[k], one)]
                numbers.append(1 + max(held) if held else 0)
            wanted = [[] for _ in range(max(numbers, default=-1) + 1)]
            for number, one in zip(numbers, trace):
                wanted[number].append(one)
            found = layers(trace)
            self.assertEqual(found, tuple(tuple(sorted(layer, key=lambda one: one[0])) for layer in wanted))
            for other in list(alike_set(trace))[:10]:
                self.assertEqual(layers(other), found)

    def test_longest_chain(self):
        self.assertEqual(longest_chain(()), ())
        self.assertEqual(longest_chain((A,)), (0,))
        for trace in TRACES:
            chain = longest_chain(trace)
            self.assertEqual(len(chain), len(layers(trace)))
            self.assertEqual(list(chain), sorted(set(chain)))
            for at, then in zip(chain, chain[1:]):
                self.assertFalse(free(trace[at], trace[then]))


if __name__ == "__main__":
    unittest.main()
