import unittest
from fractions import Fraction
from itertools import combinations, permutations, product
from math import comb

from feasted.chances import chance_alike, chance_both, chance_joined, chance_there, chances_first, mean_joined
from feasted.errors import BadEvening, BadNumber, BadValley, NoHouse, NoRoad, SameHouse
from tests.helpers import (ANYTHING, EVENING, EXAMPLE, LONE, TWO, all_evenings, alike_ones, big_evenings, big_valleys,
                           keep_to_the_rules, mean, plain_parts, refused, refused_in_order, row, share, small_valleys)


def joined_behind(valley, evening, one, other):
    """How many roads are open when two houses have just been joined."""
    way = valley.way(one, other)
    return max([0] + [at + 1 for at, road in enumerate(evening) if set(road) <= set(way)])


class Example(unittest.TestCase):
    def told(self, function, expected, **arguments):
        keep_to_the_rules(self, function, {"valley": EXAMPLE, **arguments}, expected)

    def test_joined(self):
        for number, chance in [(0, (0, 1)), (1, (0, 1)), (2, (1, 3)), (3, (1, 1)), (4, (1, 1)), (10 ** 30, (1, 1))]:
            self.told(chance_joined, chance, one="a", other="c", number=number)
        for number, chance in [(0, (0, 1)), (1, (1, 3)), (2, (2, 3)), (3, (1, 1))]:
            self.told(chance_joined, chance, one="a", other="b", number=number)
        for number in range(5):
            self.told(chance_joined, (1, 1), one="d", other="d", number=number)
        self.told(mean_joined, (8, 3), one="a", other="c")
        self.told(mean_joined, (2, 1), one="b", other="c")
        self.told(mean_joined, (0, 1), one="b", other="b")

    def test_at_a_feast(self):
        for one, other in ["bc", "cb"]:
            for house, chance in [("a", (1, 2)), ("b", (1, 1)), ("c", (1, 1)), ("d", (1, 2))]:
                self.told(chance_there, chance, house=house, one=one, other=other)
            for house, guest, chance in [("a", "d", (1, 3)), ("d", "a", (1, 3)), ("a", "a", (1, 2)), ("a", "b", (1, 2)),
                                         ("c", "a", (1, 2)), ("c", "b", (1, 1)), ("c", "c", (1, 1))]:
                self.told(chance_both, chance, house=house, guest=guest, one=one, other=other)

    def test_first(self):
        for house, one, other in permutations("acd"):
            self.told(chances_first, ((1, 3), (1, 3), (1, 3)), house=house, one=one, other=other)
        self.told(chances_first, ((1, 2), (1, 2), (0, 1)), house="b", one="a", other="c")
        self.told(chances_first, ((1, 2), (0, 1), (1, 2)), house="a", one="b", other="c")
        self.told(chances_first, ((0, 1), (1, 2), (1, 2)), house="a", one="c", other="b")

    def test_alike(self):
        self.told(chance_alike, (1, 6), evening=EVENING)
        valley = row(5)
        ab, bc, cd, de = valley.roads()
        keep_to_the_rules(self, chance_alike, {"valley": valley, "evening": [ab, cd, bc, de]}, (1, 12))
        self.assertEqual((chance_alike(LONE, []), chance_alike(TWO, [("a", "b")])), ((1, 1), (1, 1)))

    def test_one_house(self):
        self.assertEqual([chance_joined(LONE, "a", "a", 0), chance_joined(LONE, "a", "a", 5), mean_joined(LONE, "a", "a")],
                         [(1, 1), (1, 1), (0, 1)])


class Refused(unittest.TestCase):
    def test_houses(self):
        for thing in ANYTHING:
            kept = {"house": thing}
            refused(self, NoHouse, kept, lambda: chance_joined(EXAMPLE, thing, thing, -1))
            refused(self, NoHouse, kept, lambda: chance_joined(EXAMPLE, "a", thing, -1))
            refused(self, NoHouse, kept, lambda: chance_there(EXAMPLE, thing, thing, thing))
            refused(self, NoHouse, kept, lambda: chance_there(EXAMPLE, "a", "c", thing))
            refused(self, NoHouse, kept, lambda: chance_both(EXAMPLE, "a", thing, None, None))
            refused(self, NoHouse, kept, lambda: chances_first(EXAMPLE, "a", "a", thing))
            refused(self, NoHouse, kept, lambda: chances_first(EXAMPLE, "a", thing, "a"))

    def test_number(self):
        for thing in ANYTHING:
            if isinstance(thing, bool) or not isinstance(thing, int) or thing < 0:
                refused(self, BadNumber, {"number": thing}, lambda: chance_joined(EXAMPLE, "a", "c", thing))

    def test_same_house(self):
        for one, other, third, same in ["aaba", "abaa", "abbb", "aaaa", "dcdd"]:
            refused(self, SameHouse, {"house": same}, lambda: chances_first(EXAMPLE, one, other, third))
        # The very string that stood there again, not the one that it is like.
        first, again = "".join(["a", "b"]), "".join(["a", "b"])
        valley = row(3)
        self.assertRaises(NoHouse, chances_first, valley, first, again, "h0")
        first, again = "".join(["h", "1"]), "".join(["h", "1"])
        refused(self, SameHouse, {"house": again}, lambda: chances_first(valley, first, again, "h0"))
        refused(self, SameHouse, {"house": again}, lambda: chances_first(valley, first, "h0", again))
        refused(self, SameHouse, {"house": again}, lambda: chances_first(valley, "h0", first, again))

    def test_in_order(self):
        valley = (["valley"], [7], BadValley, {"thing": 7})
        house, guest, one, other = [([name], [sign], NoHouse, {"house": sign})
                                    for name, sign in [("house", "w"), ("guest", "x"), ("one", "y"), ("other", "z")]]
        no_road = (["one", "other"], ["a", "c"], NoRoad, {"one": "a", "other": "c"})
        two = {"valley": EXAMPLE, "one": "a", "other": "b"}
        refused_in_order(self, chance_joined, {**two, "number": 1},
                         [valley, one, other, (["number"], [-1], BadNumber, {"number": -1})])
        refused_in_order(self, mean_joined, two, [valley, one, other])
        refused_in_order(self, chance_there, {**two, "house": "a"}, [valley, house, one, other, no_road])
        refused_in_order(self, chance_both, {**two, "house": "a", "guest": "b"},
                         [valley, house, guest, one, other, no_road])
        refused_in_order(self, chances_first, {**two, "house": "c"},
                         [valley, house, one, other, (["one"], ["c"], SameHouse, {"house": "c"}),
                          (["other"], ["a"], SameHouse, {"house": "a"})])
        refused_in_order(self, chance_alike, {"valley": EXAMPLE, "evening": EVENING},
                         [valley, (["evening"], [()], BadEvening, {"evening": ()})])


class AllEvenings(unittest.TestCase):
    def test_joined(self):
        for valley in small_valleys(6):
            evenings = all_evenings(valley)
            for one, other in product(valley.houses(), repeat=2):
                behind = [joined_behind(valley, evening, one, other) for evening in evenings]
                self.assertEqual(mean_joined(valley, one, other), mean(behind))
                for number in range(len(valley.houses()) + 2):
                    many = sum(each <= number for each in behind)
                    self.assertEqual(chance_joined(valley, one, other, number), share(many, len(evenings)))

    def test_at_a_feast(self):
        for valley in small_valleys(6):
            held = [plain_parts(valley, evening) for evening in all_evenings(valley)]
            for road in valley.roads():
                for house, guest in product(valley.houses(), repeat=2):
                    both = sum(house in parts[road] and guest in parts[road] for parts in held)
                    for one, other in [road, road[::-1]]:
                        self.assertEqual(chance_both(valley, house, guest, one, other), share(both, len(held)))
                        if house == guest:
                            self.assertEqual(chance_there(valley, house, one, other), share(both, len(held)))

    def test_first(self):
        for valley in small_valleys(6):
            evenings = all_evenings(valley)
            for house in valley.houses():
                behind = {far: [joined_behind(valley, evening, house, far) for evening in evenings]
                          for far in valley.houses()}
                for one, other in permutations([far for far in valley.houses() if far != house], 2):
                    pairs = list(zip(behind[one], behind[other]))
                    many = [sum(x < y for x, y in pairs), sum(x > y for x, y in pairs), sum(x == y for x, y in pairs)]
                    self.assertEqual(chances_first(valley, house, one, other),
                                     tuple(share(each, len(evenings)) for each in many))

    def test_alike(self):
        for valley in small_valleys(6):
            lots = alike_ones(valley)
            every = sum(len(alike) for alike in lots)
            for alike in lots:
                self.assertEqual(chance_alike(valley, alike[-1]), share(len(alike), every))


class Sixty(unittest.TestCase):
    def test_chances(self):
        for valley in big_valleys():
            houses = valley.houses()
            for one, other in list(combinations(houses, 2))[::199]:
                way = valley.way(one, other)
                due = len(way) - 1
                for number in [0, due - 1, due, 40, 59, 60, 300]:
                    chance = Fraction(comb(59 - due, min(number, 59) - due) if number >= due else 0,
                                      comb(59, min(number, 59)))
                    self.assertEqual(chance_joined(valley, one, other, number),
                                     (chance.numerator, chance.denominator))
                self.assertEqual(mean_joined(valley, one, other), share(due * 60, due + 1))
                for house in houses[::20]:
                    near = min(len(valley.way(house, way[0])), len(valley.way(house, way[1])))
                    self.assertEqual(chance_there(valley, house, way[0], way[1]), (1, near))
                    self.assertEqual(chance_both(valley, house, house, way[1], way[0]), (1, near))
                    if house not in (one, other):
                        chances = chances_first(valley, house, one, other)
                        self.assertEqual(sum(Fraction(*each) for each in chances), 1)

    def test_alike(self):
        for valley, evening in big_evenings():
            bottom = 1
            for part in plain_parts(valley, evening).values():
                bottom *= len(part) - 1
            self.assertEqual(chance_alike(valley, evening), (1, bottom))
