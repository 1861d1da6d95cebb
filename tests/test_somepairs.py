import random
import unittest
from itertools import combinations

from feasted.errors import BadPairs, BadValley
from feasted.somepairs import count_by_pairs, evening_by_pairs
from tests.helpers import (ANYTHING, EXAMPLE, LONE, TWO, alike_ones, keep_to_the_rules, plain_table, refused,
                           refused_in_order, row, small_valleys, star)

BOTH = [count_by_pairs, evening_by_pairs]


class Example(unittest.TestCase):
    def told(self, valley, pairs, count, evening):
        keep_to_the_rules(self, count_by_pairs, {"valley": valley, "pairs": pairs}, count)
        keep_to_the_rules(self, evening_by_pairs, {"valley": valley, "pairs": pairs}, evening)

    def test_example(self):
        self.told(EXAMPLE, {("a", "c"): 1}, 4, [("a", "b"), ("b", "d"), ("b", "c")])
        self.told(EXAMPLE, {}, 6, EXAMPLE.roads())
        self.told(EXAMPLE, {("b", "c"): 3, ("a", "d"): 1}, 2, [("b", "c"), ("a", "b"), ("b", "d")])
        self.told(EXAMPLE, {("c", "d"): 1, ("b", "c"): 3, ("a", "d"): 1}, 1, [("b", "c"), ("a", "b"), ("b", "d")])
        self.told(EXAMPLE, {("a", "c"): 0}, 0, None)
        self.told(EXAMPLE, {("a", "c"): 3}, 0, None)
        self.told(EXAMPLE, {("b", "c"): 10 ** 30}, 0, None)

    def test_one_and_two_houses(self):
        self.told(LONE, {}, 1, [])
        self.told(TWO, {}, 1, [("a", "b")])
        self.told(TWO, {("b", "a"): 1}, 1, [("a", "b")])
        self.told(TWO, {("b", "a"): 2}, 0, None)


class Refused(unittest.TestCase):
    def test_pairs(self):
        wrong = [{("b", "a"): 1}, {("a", "a"): 1}, {("a", "b", "c"): 1}, {"ab": 1}, {("a", "x"): 1}, {("a",): 1},
                 {("a", "b"): 1, None: 1}, [("a", "b")], {("a", "b"): -1}, {("a", "b"): True}, {("a", "b"): [1]},
                 {("a", "b"): 1, ("c", "d"): "1"}, {("a", 1): 1}, {(("a",), "b"): 1}]
        for pairs in wrong + [thing for thing in ANYTHING if thing != {}]:
            for call in BOTH:
                refused(self, BadPairs, {"pairs": pairs}, lambda: call(EXAMPLE, pairs))
        for call in BOTH:
            self.assertRaises(BadPairs, call, LONE, {("a", "b"): 1})
            self.assertRaises(BadPairs, call, TWO, {("a", "b"): 1})

    def test_in_order(self):
        for call in BOTH:
            refused_in_order(self, call, {"valley": EXAMPLE, "pairs": {}},
                             [(["valley"], [7], BadValley, {"thing": 7}),
                              (["pairs"], [()], BadPairs, {"pairs": ()})])


def tables_of(valley):
    """Of each lot of alike evenings the first one, and its table."""
    return [(alike[0], plain_table(valley, alike[0])) for alike in alike_ones(valley)]


class AllEvenings(unittest.TestCase):
    def held_against(self, valley, tables, pairs):
        fitting = [evening for evening, table in tables if all(table[pair] == pairs[pair] for pair in pairs)]
        self.assertEqual(count_by_pairs(valley, pairs), len(fitting))
        self.assertEqual(evening_by_pairs(valley, pairs), fitting[0] if fitting else None)

    def test_alike_evenings_have_one_table(self):
        for valley in small_valleys(6):
            for alike in alike_ones(valley):
                self.assertEqual({repr(plain_table(valley, evening)) for evening in alike},
                                 {repr(plain_table(valley, alike[0]))})

    def test_each_pair_alone(self):
        for valley in small_valleys(6):
            tables = tables_of(valley)
            for pair in combinations(valley.houses(), 2):
                for number in range(len(valley.houses()) + 1):
                    self.held_against(valley, tables, {pair: number})

    def test_some_pairs_of_an_evening_and_some_changed(self):
        chance = random.Random(8)
        for valley in [*small_valleys(6), star(6), row(6)]:
            tables = tables_of(valley)
            for _ in range(12):
                table = chance.choice(tables)[1]
                some = chance.sample(list(table), chance.randrange(len(table) + 1))
                pairs = {pair: table[pair] for pair in some}
                self.held_against(valley, tables, pairs)
                for pair in some[:1]:
                    self.held_against(valley, tables, {**pairs, pair: chance.randrange(6)})
