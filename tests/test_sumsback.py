import unittest

from feasted.errors import BadFeasts, BadKnown, BadSums, BadValley
from feasted.evenings import feasts_of, first_alike
from feasted.sums import sums_of
from feasted.sumsback import evening_of_sums, feasts_by_sums, sum_lacking, sums_break, sums_by_feasts
from feasted.valleys import Valley
from tests.helpers import (ANYTHING, EVENING, EXAMPLE, LONE, TWO, all_books, big_evenings, big_valleys, first_ones,
                           frozen, keep_to_the_rules, named, nearly, plain_feasts, plain_parts, refused,
                           refused_in_order, small_valleys)
from tests.test_sums import HEAVY, people, plain_sums

SUMS = {"a": 7, "b": 9, "c": 9, "d": 4}


def plain_rule(valley, sums):
    """[7.3], word by word: the dict of calls and the first house that breaks with what is left."""
    houses = valley.houses()
    first = houses[0]
    ways = {house: valley.way(house, first) for house in houses}
    calls, lots = {}, {}
    for house in sorted(houses, key=lambda each: (-len(ways[each]), houses.index(each))):
        lot, left = [house], sums[house]
        while True:
            roads = [(near, far) for near in lot for far in valley.beside(near)
                     if far not in lot and len(ways[far]) > len(ways[near]) and calls[far] == left]
            if len(roads) > 1:
                return calls, (house, left)
            if left <= 0 or not roads:
                break
            lot = lot + lots[roads[0][1]]
            left -= people(valley, lot)
        if house != first and left < 1 or house == first and (left != 0 or len(lot) < len(houses)):
            return calls, (house, left)
        lots[house], calls[house] = lot, left
    return calls, None


class Example(unittest.TestCase):
    def test_back(self):
        keep_to_the_rules(self, evening_of_sums, {"valley": EXAMPLE, "sums": SUMS}, EVENING)
        keep_to_the_rules(self, sums_break, {"valley": EXAMPLE, "sums": SUMS}, None)
        keep_to_the_rules(self, feasts_by_sums, {"valley": EXAMPLE, "sums": SUMS}, named([2, 3, 3, 1]))
        keep_to_the_rules(self, sums_by_feasts, {"valley": EXAMPLE, "feasts": named([2, 3, 3, 1])}, SUMS)
        keep_to_the_rules(self, evening_of_sums, {"valley": HEAVY, "sums": named([15, 17, 17, 8])}, EVENING)

    def test_breaks(self):
        for sums, broken in [([7, 9, 9, 5], ("a", 4)), ([7, 9, 9, 9], ("b", 9)), ([7, 9, 0, 4], ("c", 0)),
                             ([7, 9, 9, 0], ("d", 0)), ([7, 0, 9, 4], ("b", 0)), ([7, 1, 1, 4], ("b", -1)),
                             ([0, 9, 9, 4], ("a", 0)), ([0, 0, 0, 0], ("c", 0)), ([8, 9, 9, 4], ("a", 8)),
                             ([10 ** 19] * 4, ("b", 10 ** 19)), ([10 ** 19, 9, 9, 4], ("a", 10 ** 19))]:
            arguments = {"valley": EXAMPLE, "sums": named(sums)}
            keep_to_the_rules(self, sums_break, arguments, broken)
            keep_to_the_rules(self, evening_of_sums, arguments, None)
            keep_to_the_rules(self, feasts_by_sums, arguments, None)
        keep_to_the_rules(self, sums_by_feasts, {"valley": EXAMPLE, "feasts": named([2, 2, 2, 2])}, None)

    def test_lacking(self):
        for house in SUMS:
            known = {each: SUMS[each] for each in SUMS if each != house}
            keep_to_the_rules(self, sum_lacking, {"valley": EXAMPLE, "known": known}, SUMS[house])
        for known in [{"b": 9, "c": 9, "d": 5}, {"b": 0, "c": 0, "d": 0}, {"a": 9, "c": 9, "d": 9}]:
            keep_to_the_rules(self, sum_lacking, {"valley": EXAMPLE, "known": known}, None)

    def test_one_and_two_houses(self):
        self.assertEqual((evening_of_sums(LONE, {"a": 0}), sums_break(LONE, {"a": 0})), ([], None))
        self.assertEqual((evening_of_sums(LONE, {"a": 7}), sums_break(LONE, {"a": 7})), (None, ("a", 7)))
        self.assertEqual((feasts_by_sums(LONE, {"a": 0}), sums_by_feasts(LONE, {"a": 0})), ({"a": 0}, {"a": 0}))
        self.assertEqual(sum_lacking(LONE, {}), 0)
        self.assertEqual([sum_lacking(TWO, known) for known in [{"a": 7}, {"b": 7}, {"b": 8}]], [7, 7, None])
        self.assertEqual(repr(feasts_by_sums(TWO, {"a": 7, "b": 7})), "{'b': 1, 'a': 1}")


class Refused(unittest.TestCase):
    def test_sums(self):
        wrong = [{**SUMS, "a": -1}, {**SUMS, "a": True}, {**SUMS, "a": "7"}, {**SUMS, "a": [7]}, {**SUMS, "e": 1},
                 {"a": 7, "b": 9, "c": 9}, {"a": 7, "b": 9, "c": 9, "e": 4}, {"a": 7, "b": 9, "c": 9, 1: 4}]
        for sums in wrong + ANYTHING:
            for call in [evening_of_sums, sums_break, feasts_by_sums]:
                refused(self, BadSums, {"sums": sums}, lambda: call(EXAMPLE, sums))

    def test_known(self):
        wrong = [SUMS, {}, {"a": 7, "b": 9}, {"a": 7, "b": 9, "e": 4}, {**SUMS, "e": 1}]
        wrong += [{"a": 7, "b": 9, "c": thing} for thing in [-1, False, None, "9", [9]]]
        for known in wrong + ANYTHING:
            refused(self, BadKnown, {"known": known}, lambda: sum_lacking(EXAMPLE, known))
        whole = {"a": 0}
        refused(self, BadKnown, {"known": whole}, lambda: sum_lacking(LONE, whole))

    def test_in_order(self):
        valley = (["valley"], [7], BadValley, {"thing": 7})
        for call in [evening_of_sums, sums_break, feasts_by_sums]:
            refused_in_order(self, call, {"valley": EXAMPLE, "sums": SUMS},
                             [valley, (["sums"], [()], BadSums, {"sums": ()})])
        refused_in_order(self, sums_by_feasts, {"valley": EXAMPLE, "feasts": named([2, 3, 3, 1])},
                         [valley, (["feasts"], [()], BadFeasts, {"feasts": ()})])
        refused_in_order(self, sum_lacking, {"valley": EXAMPLE, "known": {"a": 7, "b": 9, "c": 9}},
                         [valley, (["known"], [()], BadKnown, {"known": ()})])


class AllSums(unittest.TestCase):
    def held_against(self, valley, sums, first):
        evening = first.get(frozen(sums))
        self.assertEqual(evening_of_sums(valley, sums), evening)
        broken = sums_break(valley, sums)
        self.assertEqual(broken, plain_rule(valley, sums)[1])
        self.assertNotEqual(evening is None, broken is None)
        feasts = None if evening is None else plain_feasts(valley, evening)
        self.assertEqual(repr(feasts_by_sums(valley, sums)), repr(feasts))

    def test_up_to_four_houses(self):
        for valley in small_valleys(4):
            for heads in [[1] * 4, [1, 2, 1, 3]]:
                valley = Valley(valley.houses(), valley.roads(), heads[:len(valley.houses())])
                first = first_ones(valley, plain_sums)
                numbers = sorted({number for key in first for _, number in key} | {0, 1, 2, 5})
                for sums in all_books(valley.houses(), numbers):
                    self.held_against(valley, sums, first)

    def test_near_to_evenings(self):
        for valley in small_valleys(6):
            first = first_ones(valley, plain_sums)
            for key in first:
                numbers = sorted({number + more for _, number in key for more in (-1, 0, 1)} | {0, 1, 2, 40})
                for sums in nearly(dict(key), [number for number in numbers if number >= 0]):
                    self.held_against(valley, sums, first)

    def test_whatever_the_heads(self):
        for valley in small_valleys(5):
            for heads in [[1] * 5, [1, 2, 3, 4, 5], [7, 1, 1, 1, 7], [10 ** 15] * 5]:
                valley = Valley(valley.houses(), valley.roads(), heads[:len(valley.houses())])
                unlike = first_ones(valley, plain_parts)
                self.assertEqual(sorted(first_ones(valley, plain_sums).values()), sorted(unlike.values()))

    def test_one_lacking(self):
        for valley in small_valleys(5):
            due = {}
            for key in first_ones(valley, plain_sums):
                for house, number in key:
                    rest = frozen({each: worth for each, worth in key if each != house})
                    self.assertEqual(due.setdefault(rest, number), number)
            for rest in list(due):
                for known in nearly(dict(rest), [0, 1, 7, 12, 23]):
                    self.assertEqual(sum_lacking(valley, known), due.get(frozen(known)))

    def test_by_feasts(self):
        for valley in small_valleys(5):
            first = first_ones(valley, plain_feasts)
            for feasts in list(all_books(valley.houses(), range(5)))[:: 1 + len(valley.houses())]:
                evening = first.get(frozen(feasts))
                sums = None if evening is None else plain_sums(valley, evening)
                self.assertEqual(repr(sums_by_feasts(valley, feasts)), repr(sums))


class Sixty(unittest.TestCase):
    def test_sixty(self):
        for heads in [[1] * 60, [10 ** 15 - number for number in range(60)]]:
            for valley, evening in big_evenings(heads=heads):
                sums = sums_of(valley, evening)
                self.assertEqual(evening_of_sums(valley, sums), first_alike(valley, evening))
                self.assertIsNone(sums_break(valley, sums))
                feasts = feasts_of(valley, evening)
                self.assertEqual(feasts_by_sums(valley, sums), feasts)
                self.assertEqual(sums_by_feasts(valley, feasts), sums)
                for house in valley.houses()[::13]:
                    known = {each: sums[each] for each in sums if each != house}
                    self.assertEqual(sum_lacking(valley, known), sums[house])
                    self.assertIsNone(evening_of_sums(valley, {**known, house: 10 ** 19}))
                    self.assertIsNotNone(sums_break(valley, {**known, house: sums[house] + 1}))

    def test_greatest_sums(self):
        for valley in big_valleys():
            self.assertIsNotNone(sums_break(valley, {house: 10 ** 19 for house in valley.houses()}))
