import unittest
from math import factorial

from feasted.errors import BadEvening, BadNumber, BadValley, NoHouse, NoRoad
from feasted.evenings import first_alike
from feasted.rowsandstars import count_row
from feasted.unlikenumbers import unlike_at, unlike_number
from feasted.unlikes import count_by_feasts, count_last, count_unlike, mean_of_unlike
from tests.helpers import (ANYTHING, EVENING, EXAMPLE, LONE, TWO, alike_ones, keep_to_the_rules, mean, plain_feasts,
                           refused, refused_in_order, row, share, shuffled, small_valleys, star, tree)


def place_in_order(valley, evening, houses):
    """What [13.3] puts in order: the place of the last road among some houses, then the same of both its sides."""
    roads = [road for road in evening if set(road) <= set(houses)]
    if not roads:
        return ()
    one, other = roads[-1]
    beyond = [house for house in valley.side(one, other) if house in houses]
    near = [house for house in houses if house not in beyond]
    return (valley.roads().index(roads[-1]), place_in_order(valley, evening, near),
            place_in_order(valley, evening, beyond))


class Example(unittest.TestCase):
    def test_counted(self):
        keep_to_the_rules(self, count_unlike, {"valley": EXAMPLE}, 6)
        keep_to_the_rules(self, count_unlike, {"valley": row(5)}, 14)
        for one, other in ["ab", "ba", "bc", "db"]:
            keep_to_the_rules(self, count_last, {"valley": EXAMPLE, "one": one, "other": other}, 2)
        for house, counts in [("a", {1: 2, 2: 2, 3: 2}), ("b", {3: 6}), ("d", {1: 2, 2: 2, 3: 2})]:
            keep_to_the_rules(self, count_by_feasts, {"valley": EXAMPLE, "house": house}, counts)
        for house in ["h0", "h4"]:
            keep_to_the_rules(self, count_by_feasts, {"valley": row(5), "house": house}, {1: 5, 2: 5, 3: 3, 4: 1})
            keep_to_the_rules(self, mean_of_unlike, {"valley": row(5), "house": house}, (2, 1))

    def test_numbered(self):
        valley = row(3)
        ab, bc = valley.roads()
        for number, evening in enumerate([[bc, ab], [ab, bc]]):
            keep_to_the_rules(self, unlike_at, {"valley": valley, "number": number}, evening)
            keep_to_the_rules(self, unlike_number, {"valley": valley, "evening": evening}, number)
        keep_to_the_rules(self, unlike_number, {"valley": EXAMPLE, "evening": EVENING}, 4)
        keep_to_the_rules(self, unlike_at, {"valley": EXAMPLE, "number": 4}, EVENING)

    def test_one_and_two_houses(self):
        for valley, road in [(LONE, []), (TWO, [("a", "b")])]:
            self.assertEqual((count_unlike(valley), unlike_at(valley, 0), unlike_number(valley, road)), (1, road, 0))
        self.assertEqual((count_by_feasts(LONE, "a"), mean_of_unlike(LONE, "a")), ({0: 1}, (0, 1)))
        self.assertEqual((count_by_feasts(TWO, "a"), mean_of_unlike(TWO, "b"), count_last(TWO, "b", "a")),
                         ({1: 1}, (1, 1), 1))


class Refused(unittest.TestCase):
    def test_number(self):
        for thing in ANYTHING + [6, 7, 10 ** 30]:
            if isinstance(thing, bool) or not isinstance(thing, int) or not 0 <= thing < 6:
                refused(self, BadNumber, {"number": thing}, lambda: unlike_at(EXAMPLE, thing))
        self.assertRaises(BadNumber, unlike_at, LONE, 1)

    def test_houses(self):
        for thing in ANYTHING:
            refused(self, NoHouse, {"house": thing}, lambda: count_last(EXAMPLE, thing, thing))
            refused(self, NoHouse, {"house": thing}, lambda: count_last(EXAMPLE, "a", thing))
            for call in [count_by_feasts, mean_of_unlike]:
                refused(self, NoHouse, {"house": thing}, lambda: call(EXAMPLE, thing))
            if thing is not EXAMPLE and thing is not LONE:
                refused(self, BadValley, {"thing": thing}, lambda: count_unlike(thing))

    def test_in_order(self):
        valley = (["valley"], [7], BadValley, {"thing": 7})
        refused_in_order(self, count_last, {"valley": EXAMPLE, "one": "a", "other": "b"},
                         [valley, (["one"], ["x"], NoHouse, {"house": "x"}), (["other"], ["y"], NoHouse, {"house": "y"}),
                          (["one", "other"], ["a", "c"], NoRoad, {"one": "a", "other": "c"})])
        for call in [count_by_feasts, mean_of_unlike]:
            refused_in_order(self, call, {"valley": EXAMPLE, "house": "a"},
                             [valley, (["house"], ["x"], NoHouse, {"house": "x"})])
        refused_in_order(self, unlike_at, {"valley": EXAMPLE, "number": 0},
                         [valley, (["number"], [-1], BadNumber, {"number": -1})])
        refused_in_order(self, unlike_number, {"valley": EXAMPLE, "evening": EVENING},
                         [valley, (["evening"], [()], BadEvening, {"evening": ()})])


class AllEvenings(unittest.TestCase):
    def test_counted(self):
        for valley in [*small_valleys(6), tree(7, 1)]:
            unlike = [alike[0] for alike in alike_ones(valley)]
            self.assertEqual(count_unlike(valley), len(unlike))
            for one, other in valley.roads():
                many = sum(evening[-1] == (one, other) for evening in unlike)
                self.assertEqual((count_last(valley, one, other), count_last(valley, other, one)), (many, many))
            feasts = [plain_feasts(valley, evening) for evening in unlike]
            for house in valley.houses():
                numbers = sorted(book[house] for book in feasts)
                counts = {number: numbers.count(number) for number in numbers}
                self.assertEqual(repr(count_by_feasts(valley, house)), repr(counts))
                self.assertEqual(mean_of_unlike(valley, house), mean(numbers))

    def test_numbered(self):
        for valley in [*small_valleys(6), tree(7, 1)]:
            lots = sorted(alike_ones(valley), key=lambda alike: place_in_order(valley, alike[0], valley.houses()))
            for number, alike in enumerate(lots):
                self.assertEqual(unlike_at(valley, number), alike[0])
                for evening in alike[::2]:
                    self.assertEqual(unlike_number(valley, evening), number)
            self.assertRaises(BadNumber, unlike_at, valley, len(lots))


class Twelve(unittest.TestCase):
    def test_counted(self):
        self.assertEqual((count_unlike(row(12)), count_unlike(star(12, middle=7))), (count_row(12), factorial(11)))
        for valley in [row(12), star(12), tree(12, 1), tree(12, 2), tree(12, 3)]:
            every = count_unlike(valley)
            self.assertEqual(sum(count_last(valley, one, other) for one, other in valley.roads()), every)
            for house in valley.houses()[::3]:
                counts = count_by_feasts(valley, house)
                self.assertEqual((list(counts), sum(counts.values())), (sorted(counts), every))
                self.assertEqual(mean_of_unlike(valley, house),
                                 share(sum(number * counts[number] for number in counts), every))

    def test_there_and_back(self):
        for valley in [row(12), star(12), tree(12, 1), tree(12, 2)]:
            every = count_unlike(valley)
            for number in [0, 1, every // 7, every // 2, every - 1]:
                evening = unlike_at(valley, number)
                self.assertEqual(unlike_number(valley, evening), number)
                self.assertEqual(first_alike(valley, evening), evening)
            evenings = [shuffled(valley, seed) for seed in range(9)]
            byplace = sorted(evenings, key=lambda evening: place_in_order(valley, evening, valley.houses()))
            self.assertEqual(sorted(evenings, key=lambda evening: unlike_number(valley, evening)), byplace)
            for evening in evenings:
                self.assertEqual(unlike_at(valley, unlike_number(valley, evening)), first_alike(valley, evening))
