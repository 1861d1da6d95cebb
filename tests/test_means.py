import unittest
from fractions import Fraction
from itertools import product

from feasted.chances import chance_both, chance_there
from feasted.errors import BadValley, NoHouse, NoRoad
from feasted.means import mean_common, mean_feasts, mean_meals, mean_people
from tests.helpers import (ANYTHING, EXAMPLE, LONE, TWO, all_evenings, big_valleys, keep_to_the_rules, mean,
                           plain_feasts, plain_parts, refused, refused_in_order, row, small_valleys, tree)


class Example(unittest.TestCase):
    def told(self, function, expected, **arguments):
        keep_to_the_rules(self, function, {"valley": EXAMPLE, **arguments}, expected)

    def test_example(self):
        for house, average in [("a", (2, 1)), ("b", (3, 1)), ("c", (2, 1)), ("d", (2, 1))]:
            self.told(mean_feasts, average, house=house)
            self.told(mean_common, average, house=house, guest=house)
        self.told(mean_common, (4, 3), house="a", guest="c")
        self.told(mean_common, (2, 1), house="a", guest="b")
        self.told(mean_people, (3, 1), one="b", other="c")
        self.told(mean_people, (3, 1), one="c", other="b")
        self.told(mean_meals, (9, 1))
        self.assertEqual(mean_feasts(row(5), "h0"), (25, 12))

    def test_one_and_two_houses(self):
        self.assertEqual([mean_feasts(LONE, "a"), mean_common(LONE, "a", "a"), mean_meals(LONE)], [(0, 1)] * 3)
        self.assertEqual([mean_feasts(TWO, "b"), mean_common(TWO, "a", "b"), mean_people(TWO, "a", "b"), mean_meals(TWO)],
                         [(1, 1), (1, 1), (7, 1), (7, 1)])


class Refused(unittest.TestCase):
    def test_houses(self):
        for thing in ANYTHING:
            kept = {"house": thing}
            refused(self, NoHouse, kept, lambda: mean_feasts(EXAMPLE, thing))
            refused(self, NoHouse, kept, lambda: mean_common(EXAMPLE, thing, thing))
            refused(self, NoHouse, kept, lambda: mean_common(EXAMPLE, "a", thing))
            refused(self, NoHouse, kept, lambda: mean_people(EXAMPLE, thing, thing))
            refused(self, NoHouse, kept, lambda: mean_people(EXAMPLE, "a", thing))
            if thing is not EXAMPLE and thing is not LONE:
                refused(self, BadValley, {"thing": thing}, lambda: mean_meals(thing))

    def test_in_order(self):
        valley = (["valley"], [7], BadValley, {"thing": 7})
        house, guest, one, other = [([name], [sign], NoHouse, {"house": sign})
                                    for name, sign in [("house", "w"), ("guest", "x"), ("one", "y"), ("other", "z")]]
        refused_in_order(self, mean_feasts, {"valley": EXAMPLE, "house": "a"}, [valley, house])
        refused_in_order(self, mean_common, {"valley": EXAMPLE, "house": "a", "guest": "b"}, [valley, house, guest])
        refused_in_order(self, mean_people, {"valley": EXAMPLE, "one": "a", "other": "b"},
                         [valley, one, other, (["one", "other"], ["c", "d"], NoRoad, {"one": "c", "other": "d"})])


class AllEvenings(unittest.TestCase):
    def test_means(self):
        for valley in small_valleys(6):
            evenings = all_evenings(valley)
            held = [plain_parts(valley, evening) for evening in evenings]
            people = dict(zip(valley.houses(), valley.heads()))
            for house, guest in product(valley.houses(), repeat=2):
                many = [sum(house in part and guest in part for part in parts.values()) for parts in held]
                self.assertEqual(mean_common(valley, house, guest), mean(many))
                if house == guest:
                    self.assertEqual(mean_feasts(valley, house), mean(many))
            sizes = {road: [sum(people[house] for house in parts[road]) for parts in held] for road in valley.roads()}
            for one, other in valley.roads():
                self.assertEqual(mean_people(valley, one, other), mean(sizes[(one, other)]))
                self.assertEqual(mean_people(valley, other, one), mean(sizes[(one, other)]))
            meals = [sum(plain_feasts(valley, evening)[house] * people[house] for house in people)
                     for evening in evenings]
            self.assertEqual(mean_meals(valley), mean(meals))


class Sixty(unittest.TestCase):
    def test_sums_of_chances(self):
        for valley in [*big_valleys(), tree(60, 9, [10 ** 15 - index for index in range(60)])]:
            houses, roads = valley.houses(), valley.roads()
            people = dict(zip(houses, valley.heads()))
            for house, guest in list(product(houses, repeat=2))[::1237]:
                self.assertEqual(Fraction(*mean_feasts(valley, house)),
                                 sum(Fraction(*chance_there(valley, house, *road)) for road in roads))
                self.assertEqual(Fraction(*mean_common(valley, house, guest)),
                                 sum(Fraction(*chance_both(valley, house, guest, *road)) for road in roads))
            self.assertEqual(Fraction(*mean_people(valley, *roads[7])),
                             sum(people[house] * Fraction(*chance_there(valley, house, *roads[7])) for house in houses))
            meals = Fraction(*mean_meals(valley))
            self.assertEqual(meals, sum(people[house] * Fraction(*mean_feasts(valley, house)) for house in houses))
            self.assertEqual(meals, sum(Fraction(*mean_people(valley, *road)) for road in roads))
