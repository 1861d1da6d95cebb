import unittest
from fractions import Fraction

from feasted.errors import BadEvening, BadFeasts, BadNumbers, BadRest, BadValley, NoHouse, NoRoad, NotOne
from feasted.evenings import feasts_of, first_alike
from feasted.halves import evening_of_feasts, feasts_break, weight
from feasted.roadnumbers import (evening_of_numbers, number_lacking, numbers_break, numbers_of_feasts, road_numbers,
                                 roads_break, side_digits)
from tests.helpers import (ANYTHING, EVENING, EXAMPLE, LONE, TWO, all_books, all_evenings, big_evenings, first_ones,
                           frozen, keep_to_the_rules, named, nearly, plain_feasts, plain_numbers, plain_parts, refused,
                           refused_in_order, row, small_valleys)

FEASTS = {"a": 2, "b": 3, "c": 3, "d": 1}
AB, BC, BD = EXAMPLE.roads()
NUMBERS = {AB: 2, BC: 3, BD: 1}
ALIKE_NUMBERS = named([2, 2, 2, 2])


def between(valley, road, far):
    """The roads on the way between two roads."""
    ways = [valley.way(one, other) for one in road for other in far]
    way = min(ways, key=len)
    return [each for each in valley.roads() if each[0] in way and each[1] in way]


def plain_twins(valley, numbers):
    roads = valley.roads()
    for place, road in enumerate(roads):
        for far in roads[place + 1:]:
            if numbers[road] == numbers[far]:
                if all(numbers[each] >= numbers[road] for each in between(valley, road, far)):
                    return "twins", road, far
    return None


def plain_gap(valley, numbers):
    for road in valley.roads():
        lot = [house for house in valley.houses()
               if any(all(numbers[each] >= numbers[road] for each in valley.roads()
                          if each[0] in way and each[1] in way)
                      for way in [valley.way(road[0], house)])]
        rim = [numbers[each] for each in valley.roads() if (each[0] in lot) + (each[1] in lot) == 1]
        if numbers[road] != max(rim + [0]) + 1:
            return "gap", road
    return None


def plain_roads_break(valley, feasts):
    whole = sum(Fraction(1, 2 ** feasts[house]) for house in valley.houses())
    if whole != 1:
        return "sum", (whole.numerator, whole.denominator)
    numbers = {}
    for one, other in valley.roads():
        side = sum(Fraction(1, 2 ** feasts[house]) for house in valley.side(one, other))
        numbers[(one, other)] = len(bin(side.denominator)) - 3
    for house in valley.houses():
        if feasts[house] != max([0] + [numbers[road] for road in numbers if house in road]):
            return "house", house
    return plain_twins(valley, numbers)


class Example(unittest.TestCase):
    def test_numbers(self):
        keep_to_the_rules(self, road_numbers, {"valley": EXAMPLE, "evening": EVENING}, NUMBERS)
        keep_to_the_rules(self, numbers_of_feasts, {"valley": EXAMPLE, "feasts": FEASTS}, NUMBERS)
        keep_to_the_rules(self, numbers_of_feasts, {"valley": EXAMPLE, "feasts": ALIKE_NUMBERS}, {AB: 2, BC: 2, BD: 2})

    def test_digits(self):
        for one, other, digits in [("b", "c", [0, 0, 1]), ("c", "b", [1, 1, 1]), ("b", "a", [0, 1]), ("a", "b", [1, 1]),
                                   ("b", "d", [1]), ("d", "b", [1])]:
            arguments = {"valley": EXAMPLE, "feasts": FEASTS, "one": one, "other": other}
            keep_to_the_rules(self, side_digits, arguments, digits)
        for one, other in EXAMPLE.roads():
            self.assertEqual(weight(EXAMPLE, ALIKE_NUMBERS, EXAMPLE.side("b", "a")), (1, 4))
            self.assertEqual(len(side_digits(EXAMPLE, ALIKE_NUMBERS, one, other)), 2)

    def test_back(self):
        keep_to_the_rules(self, evening_of_numbers, {"valley": EXAMPLE, "numbers": NUMBERS}, EVENING)
        keep_to_the_rules(self, numbers_break, {"valley": EXAMPLE, "numbers": NUMBERS}, None)
        for numbers, broken in [([2, 2, 1], ("twins", AB, BC)), ([3, 4, 1], ("gap", AB)),
                                ([1, 300, 1], ("twins", AB, BD)), ([2, 3, 4], ("gap", AB)),
                                ([300, 299, 298], ("gap", BD))]:
            arguments = {"valley": EXAMPLE, "numbers": {AB: numbers[0], BC: numbers[1], BD: numbers[2]}}
            keep_to_the_rules(self, numbers_break, arguments, broken)
            keep_to_the_rules(self, evening_of_numbers, arguments, None)

    def test_roads_break(self):
        for numbers, broken in [([2, 3, 3, 1], None), ([2, 2, 2, 2], ("twins", AB, BC)),
                                ([1, 2, 3, 2], ("sum", (9, 8))), ([1, 2, 3, 3], ("house", "b"))]:
            keep_to_the_rules(self, roads_break, {"valley": EXAMPLE, "feasts": named(numbers)}, broken)
        short = row(4)
        feasts = dict(zip(short.houses(), [1, 3, 2, 3]))
        keep_to_the_rules(self, roads_break, {"valley": short, "feasts": feasts}, ("house", "h2"))

    def test_lacking(self):
        for rest, number in [({AB: 2, BC: 3}, 1), ({BC: 3, BD: 1}, 2), ({AB: 2, BD: 1}, 3), ({AB: 2, BC: 2}, None),
                             ({AB: 1, BC: 1}, None), ({BC: 300, BD: 1}, None), ({AB: 2, BC: 4}, None)]:
            keep_to_the_rules(self, number_lacking, {"valley": EXAMPLE, "rest": rest}, number)
        self.assertEqual(number_lacking(TWO, {}), 1)

    def test_one_house(self):
        self.assertEqual((road_numbers(LONE, []), numbers_of_feasts(LONE, {"a": 0})), ({}, {}))
        self.assertEqual((evening_of_numbers(LONE, {}), numbers_break(LONE, {})), ([], None))
        self.assertIsNone(roads_break(LONE, {"a": 0}))
        self.assertEqual(roads_break(LONE, {"a": 3}), ("sum", (1, 8)))
        for rest in [{}, {("a", "b"): 1}]:
            refused(self, BadRest, {"rest": rest}, lambda: number_lacking(LONE, rest))


class Refused(unittest.TestCase):
    def test_numbers(self):
        wrong = [{AB: 1, BC: 2}, {AB: 1, BC: 2, BD: 0}, {AB: 1, BC: 2, BD: True}, {AB: 1, BC: 2, BD: "1"},
                 {AB: 1, BC: 2, ("d", "b"): 3}, {**NUMBERS, ("b", "a"): 2}, {**NUMBERS, "ab": 2}, {**NUMBERS, 1: 1}]
        for numbers in wrong + ANYTHING:
            for call in [evening_of_numbers, numbers_break]:
                refused(self, BadNumbers, {"numbers": numbers}, lambda: call(EXAMPLE, numbers))

    def test_rest(self):
        wrong = [NUMBERS, {AB: 1}, {AB: 1, BC: 0}, {AB: 1, BC: False}, {AB: 1, ("c", "b"): 2}, {AB: 1, "bc": 2},
                 {**NUMBERS, 1: 1}, {AB: 1, BC: [2]}]
        for rest in wrong + ANYTHING:
            refused(self, BadRest, {"rest": rest}, lambda: number_lacking(EXAMPLE, rest))

    def test_not_one(self):
        for feasts, worth in [([1, 1, 1, 1], (2, 1)), ([300, 300, 300, 300], (1, 2 ** 298)), ([1, 2, 3, 2], (9, 8))]:
            for call in [lambda: numbers_of_feasts(EXAMPLE, named(feasts)),
                         lambda: side_digits(EXAMPLE, named(feasts), "a", "b")]:
                refused(self, NotOne, {"weight": worth}, call)
        refused(self, NotOne, {"weight": (1, 2)}, lambda: numbers_of_feasts(LONE, {"a": 1}))

    def test_in_order(self):
        valley = (["valley"], [7], BadValley, {"thing": 7})
        feasts = (["feasts"], [8], BadFeasts, {"feasts": 8})
        one = (["one"], ["x"], NoHouse, {"house": "x"})
        other = (["other"], ["y"], NoHouse, {"house": "y"})
        good = {"valley": EXAMPLE, "feasts": FEASTS}
        refused_in_order(self, road_numbers, {"valley": EXAMPLE, "evening": EVENING},
                         [valley, (["evening"], [8], BadEvening, {"evening": 8})])
        for call in [evening_of_numbers, numbers_break]:
            refused_in_order(self, call, {"valley": EXAMPLE, "numbers": NUMBERS},
                             [valley, (["numbers"], [()], BadNumbers, {"numbers": ()})])
        refused_in_order(self, number_lacking, {"valley": EXAMPLE, "rest": {AB: 1, BC: 2}},
                         [valley, (["rest"], [()], BadRest, {"rest": ()})])
        for call in [numbers_of_feasts, roads_break]:
            refused_in_order(self, call, good, [valley, feasts])
        refused_in_order(self, side_digits, {**good, "one": "a", "other": "b"}, [valley, feasts, one, other])

    def test_not_one_comes_last(self):
        heavy = named([0, 10 ** 30, 0, 0])
        refused(self, NoHouse, {"house": "x"}, lambda: side_digits(EXAMPLE, heavy, "x", "y"))
        refused(self, NoHouse, {"house": "y"}, lambda: side_digits(EXAMPLE, heavy, "a", "y"))
        refused(self, NoRoad, {"one": "a", "other": "c"}, lambda: side_digits(EXAMPLE, heavy, "a", "c"))
        refused(self, NoRoad, {"one": "a", "other": "a"}, lambda: side_digits(EXAMPLE, FEASTS, "a", "a"))
        for thing in ANYTHING:
            refused(self, NoHouse, {"house": thing}, lambda: side_digits(EXAMPLE, heavy, thing, None))
            refused(self, NoHouse, {"house": thing}, lambda: side_digits(EXAMPLE, heavy, "a", thing))


class AllEvenings(unittest.TestCase):
    def test_numbers(self):
        for valley in small_valleys(6):
            for evening in all_evenings(valley):
                numbers = plain_numbers(valley, evening)
                self.assertEqual(repr(road_numbers(valley, evening)), repr(numbers))

    def test_what_holds_of_them(self):
        for valley in small_valleys(5):
            for evening in all_evenings(valley):
                numbers = road_numbers(valley, evening)
                held = plain_parts(valley, evening)
                for one, count in plain_feasts(valley, evening).items():
                    own = [numbers[road] for road in numbers if one in road]
                    self.assertEqual(len(set(own)), len(own))
                    self.assertEqual(count, max(own + [0]))
                    for other in valley.houses():
                        way = valley.way(one, other)
                        least = [numbers[road] for road in numbers if road[0] in way and road[1] in way]
                        if one != other:
                            both = [part for part in held.values() if one in part and other in part]
                            self.assertEqual(len(both), min(least))

    def test_digits(self):
        for valley in small_valleys(6):
            for evening in first_ones(valley, plain_parts).values():
                feasts = plain_feasts(valley, evening)
                held = plain_parts(valley, evening)
                numbers = plain_numbers(valley, evening)
                self.assertEqual(repr(numbers_of_feasts(valley, feasts)), repr(numbers))
                for road in valley.roads():
                    later = [far for far in evening[::-1] if set(held[road]) < set(held[far])]
                    for one, other in [road, road[::-1]]:
                        side = valley.side(one, other)
                        digits = [1 if far[0] in side else 0 for far in later] + [1]
                        self.assertEqual(side_digits(valley, feasts, one, other), digits)
                        self.assertEqual(len(digits), numbers[road])

    def test_numbers_back(self):
        for valley in small_valleys(5):
            first = first_ones(valley, plain_numbers)
            self.assertEqual(len(first), len(first_ones(valley, plain_parts)))
            for numbers in all_books(valley.roads(), range(1, len(valley.houses()) + 1)):
                evening = first.get(frozen(numbers))
                self.assertEqual(evening_of_numbers(valley, numbers), evening)
                broken = numbers_break(valley, numbers)
                self.assertNotEqual(evening is None, broken is None)
                self.assertEqual(broken, plain_twins(valley, numbers) or plain_gap(valley, numbers))

    def test_roads_break(self):
        for valley in small_valleys(5):
            most = len(valley.houses()) + 1
            for feasts in list(all_books(valley.houses(), range(most)))[:: 1 + most // 6]:
                broken = roads_break(valley, feasts)
                self.assertEqual(broken, plain_roads_break(valley, feasts))
                self.assertNotEqual(broken is None, evening_of_feasts(valley, feasts) is None)
                self.assertEqual(broken is None, feasts_break(valley, feasts) is None)

    def test_numbers_of_any_feasts_that_weigh_one(self):
        for valley in small_valleys(5):
            for feasts in all_books(valley.houses(), range(5)):
                if sum(Fraction(1, 2 ** many) for many in feasts.values()) == 1:
                    for (one, other), number in numbers_of_feasts(valley, feasts).items():
                        for digits, side in [(side_digits(valley, feasts, one, other), valley.side(one, other)),
                                             (side_digits(valley, feasts, other, one), valley.side(other, one))]:
                            self.assertEqual((len(digits), digits[-1]), (number, 1))
                            worth = sum(Fraction(digit, 2 ** (at + 1)) for at, digit in enumerate(digits))
                            self.assertEqual(worth, sum(Fraction(1, 2 ** feasts[house]) for house in side))

    def test_none_above_another(self):
        for valley in small_valleys(5):
            evenings = list(first_ones(valley, plain_parts).values())
            for evening in evenings:
                for other in evenings:
                    if evening != other:
                        mine, theirs = road_numbers(valley, evening), road_numbers(valley, other)
                        self.assertTrue(any(mine[road] > theirs[road] for road in mine))
                        mine, theirs = feasts_of(valley, evening), feasts_of(valley, other)
                        self.assertTrue(any(mine[house] > theirs[house] for house in mine))

    def test_one_lacking(self):
        for valley in small_valleys(5):
            due = {}
            for key in first_ones(valley, plain_numbers):
                for road, number in key:
                    rest = frozen({each: worth for each, worth in key if each != road})
                    self.assertEqual(due.setdefault(rest, number), number)
            for road in valley.roads():
                others = [each for each in valley.roads() if each != road]
                for rest in all_books(others, range(1, len(valley.houses()) + 1)):
                    self.assertEqual(number_lacking(valley, rest), due.get(frozen(rest)))


class Sixty(unittest.TestCase):
    def test_sixty(self):
        for valley, evening in big_evenings():
            numbers = road_numbers(valley, evening)
            feasts = feasts_of(valley, evening)
            self.assertEqual(numbers, plain_numbers(valley, evening))
            self.assertEqual(numbers_of_feasts(valley, feasts), numbers)
            self.assertEqual(evening_of_numbers(valley, numbers), first_alike(valley, evening))
            self.assertIsNone(numbers_break(valley, numbers))
            self.assertIsNone(roads_break(valley, feasts))
            for road in [evening[0], evening[29], evening[58]]:
                rest = {each: numbers[each] for each in numbers if each != road}
                self.assertEqual(number_lacking(valley, rest), numbers[road])
                self.assertIsNotNone(numbers_break(valley, {**rest, road: 300}))
                self.assertEqual(len(side_digits(valley, feasts, *road)), numbers[road])

    def test_a_long_side(self):
        valley = row(60)
        feasts = feasts_of(valley, valley.roads())
        self.assertEqual(side_digits(valley, feasts, "h1", "h0"), [0] * 58 + [1])
        self.assertEqual(side_digits(valley, feasts, "h0", "h1"), [1] * 59)
        self.assertEqual(numbers_break(valley, {road: 1 for road in valley.roads()}),
                         ("twins", ("h0", "h1"), ("h1", "h2")))
        self.assertEqual(numbers_break(valley, {road: 300 - at for at, road in enumerate(valley.roads())}),
                         ("gap", ("h58", "h59")))
