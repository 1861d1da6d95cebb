import random
import unittest

from feasted.errors import BadCounts, BadValley, NoHouse, NoRow
from feasted.evenings import first_alike
from feasted.gatelists import hands
from feasted.rowcounts import counts_break, evening_of_counts
from feasted.valleys import Valley
from tests.helpers import (ANYTHING, EXAMPLE, LONE, TWO, all_books, first_ones, frozen, keep_to_the_rules, refused,
                           refused_in_order, row, shuffled)
from tests.test_gatelists import ROW

COUNTS = {"a": 2, "b": 2, "c": 1}
ROWS = [(TWO, "a"), (TWO, "b"), (ROW, "a"), (ROW, "d"),
        (Valley(list("abc"), [("c", "a"), ("a", "b")], [1, 2, 3]), "b"),
        (Valley(list("edcba"), [("a", "d"), ("e", "b"), ("d", "b"), ("c", "e")], [1, 2, 3, 4, 5]), "a"),
        (Valley(list("abcdef"), [("a", "d"), ("e", "b"), ("d", "b"), ("c", "e"), ("f", "c")], [1] * 6), "f")]
BOTH = [evening_of_counts, counts_break]


def counts_of(gate):
    def counted(valley, evening):
        return {house: len(hands(valley, evening, gate, house)) for house in valley.houses() if house != gate}
    return counted


class Example(unittest.TestCase):
    def test_counts(self):
        arguments = {"valley": ROW, "gate": "d", "counts": COUNTS}
        keep_to_the_rules(self, evening_of_counts, arguments, [("b", "c"), ("a", "b"), ("c", "d")])
        keep_to_the_rules(self, counts_break, arguments, None)
        for counts, broken in [([4, 2, 1], "a"), ([2, 3, 1], "b"), ([2, 2, 2], "c"), ([300, 300, 300], "c"),
                               ([10 ** 30, 1, 1], "a")]:
            arguments["counts"] = dict(zip("abc", counts))
            keep_to_the_rules(self, evening_of_counts, arguments, None)
            keep_to_the_rules(self, counts_break, arguments, broken)

    def test_two_houses(self):
        self.assertEqual([call(TWO, "a", {"b": 1}) for call in BOTH], [[("a", "b")], None])
        self.assertEqual([call(TWO, "b", {"a": 2}) for call in BOTH], [None, "a"])


class Refused(unittest.TestCase):
    def test_no_row(self):
        for call in BOTH:
            for valley, gate in [(EXAMPLE, "a"), (EXAMPLE, "b"), (EXAMPLE, "d"), (ROW, "b"), (ROW, "c"), (LONE, "a")]:
                refused(self, NoRow, {"gate": gate}, lambda: call(valley, gate, None))
            fork = Valley(list("abcde"), [("a", "b"), ("b", "c"), ("c", "d"), ("c", "e")], [1] * 5)
            refused(self, NoRow, {"gate": "a"}, lambda: call(fork, "a", dict.fromkeys("bcde", 1)))

    def test_counts(self):
        wrong = [{"a": 2, "b": 2}, {**COUNTS, "d": 1}, {"a": 2, "b": 2, "d": 1}, {"a": 2, "b": 2, 1: 1}]
        wrong += [{**COUNTS, "a": thing} for thing in [0, True, "2", [2], None]]
        for counts in wrong + ANYTHING:
            for call in BOTH:
                refused(self, BadCounts, {"counts": counts}, lambda: call(ROW, "d", counts))

    def test_in_order(self):
        for call in BOTH:
            good = {"valley": ROW, "gate": "d", "counts": COUNTS}
            counts = (["counts"], [()], BadCounts, {"counts": ()})
            valley = (["valley"], [7], BadValley, {"thing": 7})
            refused_in_order(self, call, good, [valley, (["gate"], ["x"], NoHouse, {"house": "x"}), counts])
            refused_in_order(self, call, good, [valley, (["gate"], ["b"], NoRow, {"gate": "b"}), counts])
            for thing in ANYTHING:
                refused(self, NoHouse, {"house": thing}, lambda: call(EXAMPLE, thing, thing))


class AllCounts(unittest.TestCase):
    def test_rows(self):
        for valley, gate in ROWS:
            first = first_ones(valley, counts_of(gate))
            self.assertEqual(len(first), [1, 1, 2, 5, 14, 42][len(valley.roads())])
            outward = [house for house in sorted(valley.houses(), key=lambda house: len(valley.way(gate, house)))]
            for counts in all_books(outward[1:], range(1, len(outward) + 1)):
                evening = first.get(frozen({house: counts[house] for house in valley.houses() if house != gate}))
                limits = [1] + [counts[house] + 1 for house in outward[1:-1]]
                above = [house for house, limit in zip(outward[1:], limits) if counts[house] > limit]
                self.assertEqual(evening_of_counts(valley, gate, counts), evening)
                self.assertEqual(counts_break(valley, gate, counts), above[0] if above else None)
                self.assertEqual(evening is None, bool(above))


class Sixty(unittest.TestCase):
    def test_sixty(self):
        valley = row(60)
        mixed = valley.houses()
        random.Random(3).shuffle(mixed)
        roads = shuffled(valley, 9)
        for valley in [valley, Valley(mixed, [road[::-1] for road in roads], [10 ** 15] * 60)]:
            for gate in ["h0", "h59"]:
                for evening in [valley.roads(), valley.roads()[::-1]] + [shuffled(valley, seed) for seed in range(5)]:
                    counts = counts_of(gate)(valley, evening)
                    self.assertEqual(evening_of_counts(valley, gate, counts), first_alike(valley, evening))
                    self.assertIsNone(counts_break(valley, gate, counts))
                    last = valley.way(gate, "h59" if gate == "h0" else "h0")[-1]
                    self.assertEqual(counts_break(valley, gate, {**counts, last: 300}), last)
