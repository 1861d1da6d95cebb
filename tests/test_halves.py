import itertools
import unittest
from fractions import Fraction

from feasted.errors import BadFeasts, BadPart, BadSome, BadValley
from feasted.evenings import feasts_of, first_alike, parts
from feasted.halves import evening_of_feasts, feasts_break, halving, last_road, parts_of_feasts, weight
from tests.helpers import (ANYTHING, EVENING, EXAMPLE, LONE, TWO, all_books, big_evenings, big_valleys, first_ones,
                           frozen, keep_to_the_rules, named, nearly, plain_feasts, plain_parts, refused,
                           refused_in_order, small_valleys)

FEASTS = {"a": 2, "b": 3, "c": 3, "d": 1}
CALLS = [evening_of_feasts, feasts_break, parts_of_feasts, last_road]


def plain_weight(feasts, some):
    worth = sum((Fraction(1, 2 ** feasts[house]) for house in some), Fraction(0))
    return worth.numerator, worth.denominator


def plain_halving(valley, feasts, part):
    found = []
    for one, other in valley.roads():
        if one in part and other in part:
            beyond = [house for house in part if house in valley.side(one, other)]
            rest = [house for house in part if house not in beyond]
            if plain_weight(feasts, beyond) == plain_weight(feasts, rest):
                found.append((one, other))
    return found


def plain_break(valley, feasts):
    if plain_weight(feasts, valley.houses()) != (1, 1):
        return "sum", plain_weight(feasts, valley.houses())

    def through(part):
        if len(part) == 1:
            return None
        roads = plain_halving(valley, feasts, part)
        if not roads:
            return "part", part
        beyond = valley.side(*roads[0])
        near = through([house for house in part if house not in beyond])
        return near or through([house for house in part if house in beyond])

    return through(valley.houses())


def hangs(valley, some):
    return all(house in some for one in some for other in some for house in valley.way(one, other))


class Example(unittest.TestCase):
    def test_weights(self):
        for house, worth in {"a": (1, 4), "b": (1, 8), "c": (1, 8), "d": (1, 2)}.items():
            keep_to_the_rules(self, weight, {"valley": EXAMPLE, "feasts": FEASTS, "some": [house]}, worth)
        for some, worth in [([], (0, 1)), (["d", "a"], (3, 4)), (list("dcba"), (1, 1)), (["c", "b"], (1, 4))]:
            keep_to_the_rules(self, weight, {"valley": EXAMPLE, "feasts": FEASTS, "some": some}, worth)
        self.assertEqual(weight(EXAMPLE, named([0, 0, 0, 300]), list("abd")), (2 ** 301 + 1, 2 ** 300))

    def test_halving(self):
        for part, road in [(list("abcd"), ("b", "d")), (list("cab"), ("a", "b")), (["c", "b"], ("b", "c")),
                           (["a"], None), (["d", "b"], None)]:
            keep_to_the_rules(self, halving, {"valley": EXAMPLE, "feasts": FEASTS, "part": part}, road)
        feasts = named([1, 2, 3, 3])
        self.assertIsNone(halving(EXAMPLE, feasts, ["b", "c", "d"]))
        self.assertEqual((weight(EXAMPLE, feasts, ["b", "d"]), weight(EXAMPLE, feasts, ["c"])), ((3, 8), (1, 8)))

    def test_back(self):
        both = {"valley": EXAMPLE, "feasts": FEASTS}
        keep_to_the_rules(self, evening_of_feasts, both, EVENING)
        keep_to_the_rules(self, feasts_break, both, None)
        keep_to_the_rules(self, parts_of_feasts, both, plain_parts(EXAMPLE, EVENING))
        keep_to_the_rules(self, last_road, both, ("b", "d"))

    def test_breaks(self):
        for numbers, broken in [([2, 2, 2, 2], ("part", ["a", "b", "c", "d"])), ([1, 2, 3, 3], ("part", list("bcd"))),
                                ([1, 2, 3, 2], ("sum", (9, 8))), ([300] * 4, ("sum", (1, 2 ** 298)))]:
            both = {"valley": EXAMPLE, "feasts": named(numbers)}
            keep_to_the_rules(self, feasts_break, both, broken)
            for call in [evening_of_feasts, parts_of_feasts, last_road]:
                keep_to_the_rules(self, call, both, None)

    def test_one_house(self):
        self.assertEqual([call(LONE, {"a": 0}) for call in CALLS], [[], None, {}, None])
        self.assertEqual([call(LONE, {"a": 1}) for call in CALLS], [None, ("sum", (1, 2)), None, None])
        self.assertIsNone(halving(LONE, {"a": 5}, ["a"]))
        self.assertEqual(weight(LONE, {"a": 5}, ["a"]), (1, 32))

    def test_order_of_houses(self):
        self.assertEqual(feasts_break(TWO, {"a": 0, "b": 0}), ("sum", (2, 1)))
        self.assertEqual(parts_of_feasts(TWO, {"a": 1, "b": 1}), {("a", "b"): ["b", "a"]})


class Refused(unittest.TestCase):
    def test_feasts(self):
        wrong = [named([2, 3, 3, 1, 1]), named([2, 3, 3]), named([2, 3, 3, -1]), named([2, 3, 3, True]),
                 named([2, 3, 3, None]), named([2, 3, 3, [1]]), {"a": 2, "b": 3, "c": 3, "e": 1}, list(FEASTS.items()),
                 {"a": 2, "b": 3, "c": 3, 1: 1}, {"a": 2, "b": 3, "c": 3, None: 1}]
        for feasts in wrong + ANYTHING:
            for call in CALLS:
                refused(self, BadFeasts, {"feasts": feasts}, lambda: call(EXAMPLE, feasts))

    def test_some(self):
        for thing in ANYTHING + ["abcd"]:
            if not isinstance(thing, (list, tuple)):
                refused(self, BadSome, {"index": 0}, lambda: weight(EXAMPLE, FEASTS, thing))
            refused(self, BadSome, {"index": 2}, lambda: weight(EXAMPLE, FEASTS, ["d", "a", thing, "a"]))
        refused(self, BadSome, {"index": 1}, lambda: weight(EXAMPLE, FEASTS, ("d", "d", "zz")))

    def test_part(self):
        wrong = [["a", "c"], ["a", "b", "a"], ["a", "b", "e"], list("acd"), "abc", {"a": 1}, ("c", "d"), [["a"]]]
        for part in wrong + ANYTHING:
            refused(self, BadPart, {"part": part}, lambda: halving(EXAMPLE, FEASTS, part))

    def test_in_order(self):
        rows = [(["valley"], [7], BadValley, {"thing": 7}), (["feasts"], [8], BadFeasts, {"feasts": 8})]
        good = {"valley": EXAMPLE, "feasts": FEASTS}
        for call in CALLS:
            refused_in_order(self, call, good, rows)
        refused_in_order(self, weight, {**good, "some": []}, rows + [(["some"], [0], BadSome, {"index": 0})])
        refused_in_order(self, halving, {**good, "part": ["a"]}, rows + [(["part"], [()], BadPart, {"part": ()})])

    def test_great_numbers_behind_errors(self):
        great = named([10 ** 30] * 4)
        refused(self, BadSome, {"index": 0}, lambda: weight(EXAMPLE, great, None))
        refused(self, BadPart, {"part": "a"}, lambda: halving(EXAMPLE, great, "a"))


class AllFeasts(unittest.TestCase):
    def held_against(self, valley, feasts, first):
        evening = first.get(frozen(feasts))
        self.assertEqual(evening_of_feasts(valley, feasts), evening)
        self.assertEqual(feasts_break(valley, feasts), plain_break(valley, feasts))
        self.assertNotEqual(evening is None, feasts_break(valley, feasts) is None)
        held = None if evening is None else plain_parts(valley, evening)
        self.assertEqual(parts_of_feasts(valley, feasts), held)
        self.assertEqual(last_road(valley, feasts), evening[-1] if evening else None)

    def test_up_to_four_houses(self):
        for valley in small_valleys(4):
            first = first_ones(valley, plain_feasts)
            for feasts in all_books(valley.houses(), range(len(valley.houses()) + 1)):
                self.held_against(valley, feasts, first)

    def test_near_to_evenings(self):
        for valley in small_valleys(6):
            first = first_ones(valley, plain_feasts)
            for key in first:
                for feasts in nearly(dict(key), range(6)):
                    self.held_against(valley, feasts, first)

    def test_all_evenings_with_these_are_alike(self):
        for valley in small_valleys(6):
            first = first_ones(valley, plain_feasts)
            unlike = first_ones(valley, plain_parts)
            self.assertEqual(sorted(first.values()), sorted(unlike.values()))

    def test_facts(self):
        for valley in small_valleys(5):
            for key, evening in first_ones(valley, plain_feasts).items():
                feasts = dict(key)
                if not evening:
                    continue
                greatest = [house for house in feasts if feasts[house] == max(feasts.values())]
                self.assertTrue(any(one in greatest and other in greatest for one, other in valley.roads()))
                one, other = last_road(valley, feasts)
                self.assertEqual(weight(valley, feasts, valley.side(one, other)), (1, 2))
                self.assertEqual(weight(valley, feasts, valley.side(other, one)), (1, 2))

    def test_all_parts(self):
        for valley in small_valleys(5):
            houses = valley.houses()
            lots = [list(lot) for many in range(1, len(houses) + 1) for lot in itertools.permutations(houses, many)]
            for feasts in list(all_books(houses, [1, 2, 3]))[::7]:
                for lot in lots[:: 1 + len(houses) // 4]:
                    self.assertEqual(weight(valley, feasts, lot), plain_weight(feasts, lot))
                    if not hangs(valley, lot):
                        refused(self, BadPart, {"part": lot}, lambda: halving(valley, feasts, lot))
                        continue
                    found = plain_halving(valley, feasts, lot)
                    self.assertLessEqual(len(found), 1)
                    self.assertEqual(halving(valley, feasts, lot), found[0] if found else None)


class Sixty(unittest.TestCase):
    def test_sixty(self):
        for valley, evening in big_evenings():
            feasts = feasts_of(valley, evening)
            self.assertEqual(evening_of_feasts(valley, feasts), first_alike(valley, evening))
            self.assertIsNone(feasts_break(valley, feasts))
            self.assertEqual(parts_of_feasts(valley, feasts), parts(valley, evening))
            self.assertEqual(last_road(valley, feasts), evening[-1])
            self.assertEqual(halving(valley, feasts, valley.houses()[::-1]), evening[-1])
            house = valley.houses()[31]
            broken = feasts_break(valley, {**feasts, house: 300})
            self.assertEqual(broken, ("sum", plain_weight({**feasts, house: 300}, valley.houses())))

    def test_greatest_numbers(self):
        for valley in big_valleys():
            feasts = {house: 300 for house in valley.houses()}
            self.assertEqual(feasts_break(valley, feasts), ("sum", (15, 2 ** 298)))
            self.assertIsNone(evening_of_feasts(valley, feasts))
            feasts = dict(zip(valley.houses(), list(range(1, 60)) + [59]))
            self.assertNotEqual(feasts_break(valley, feasts) is None, evening_of_feasts(valley, feasts) is None)
