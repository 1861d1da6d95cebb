import unittest
from math import comb, factorial

from feasted.alikes import (alike_at, alike_number, always_ahead, can_be_next, count_alike, count_begun, next_alike)
from feasted.errors import BadEvening, BadFar, BadNumber, BadOpened, BadRoad, BadValley
from feasted.evenings import are_alike, first_alike
from tests.helpers import (ANYTHING, EVENING, EXAMPLE, LONE, TWO, alike_ones, big_evenings, halved_evening,
                           keep_to_the_rules, plain_parts, refused, refused_in_order, row, shuffled, small_valleys)

NAMED_ROW = row(5)
AB, BC, CD, DE = NAMED_ROW.roads()
TOLD = [AB, CD, BC, DE]


class Example(unittest.TestCase):
    def told(self, function, expected, evening=TOLD, **more):
        keep_to_the_rules(self, function, {"valley": NAMED_ROW, "evening": evening, **more}, expected)

    def test_count(self):
        self.told(count_alike, 2)
        self.told(count_alike, 2, [CD, AB, BC, DE])
        self.told(count_alike, 1, [AB, BC, CD, DE])
        keep_to_the_rules(self, count_alike, {"valley": EXAMPLE, "evening": EVENING}, 1)

    def test_numbers(self):
        self.told(alike_number, 0)
        self.told(alike_number, 1, [CD, AB, BC, DE])
        self.told(next_alike, [CD, AB, BC, DE])
        self.told(next_alike, None, [CD, AB, BC, DE])
        for evening in [TOLD, [CD, AB, BC, DE]]:
            self.told(alike_at, TOLD, evening, number=0)
            self.told(alike_at, [CD, AB, BC, DE], evening, number=1)

    def test_ahead(self):
        for road, far, is_ahead in [(AB, CD, False), (CD, AB, False), (AB, BC, True), (BC, AB, False), (CD, DE, True),
                                    (AB, DE, True), (DE, AB, False), (DE, DE, False)]:
            self.told(always_ahead, is_ahead, road=road, far=far)
            self.told(always_ahead, is_ahead, road=road[::-1], far=far)
            self.told(always_ahead, is_ahead, road=road, far=far[::-1])

    def test_begun(self):
        for opened, roads, many in [([], [AB, CD], 2), ([CD], [AB], 1), ([AB], [CD], 1), ([AB, CD], [BC], 1),
                                    ([CD, AB, BC], [DE], 1), (TOLD, [], 1)]:
            for begun in [opened, [road[::-1] for road in opened]]:
                self.told(can_be_next, roads, opened=begun)
                self.told(count_begun, many, opened=begun)

    def test_one_and_two_houses(self):
        self.assertEqual([count_alike(LONE, []), alike_at(LONE, [], 0), alike_number(LONE, []), next_alike(LONE, []),
                          can_be_next(LONE, [], []), count_begun(LONE, [], [])], [1, [], 0, None, [], 1])
        road = ("a", "b")
        self.assertEqual([count_alike(TWO, [road]), alike_at(TWO, [("b", "a")], 0), alike_number(TWO, [road]),
                          next_alike(TWO, [road]), always_ahead(TWO, [road], road, road), can_be_next(TWO, [road], []),
                          can_be_next(TWO, [road], [road])], [1, [road], 0, None, False, [road], []])


class Refused(unittest.TestCase):
    def test_roads(self):
        ac = ("h0", "h2")
        wrong = [ac, ("h0",), ("h0", "h1", "h2"), ("h0", "h0"), ("h0", []), "h0", ({}, "h1"), ["h0", EXAMPLE]]
        for thing in ANYTHING + wrong:
            refused(self, BadRoad, {"road": thing}, lambda: always_ahead(NAMED_ROW, TOLD, thing, thing))
            refused(self, BadFar, {"far": thing}, lambda: always_ahead(NAMED_ROW, TOLD, AB, thing))

    def test_number(self):
        for thing in ANYTHING + [2, 3, 10 ** 90]:
            if not (isinstance(thing, int) and not isinstance(thing, bool) and 0 <= thing < 2):
                refused(self, BadNumber, {"number": thing}, lambda: alike_at(NAMED_ROW, TOLD, thing))
        self.assertRaises(BadNumber, alike_at, LONE, [], 1)

    def test_opened(self):
        for call in [can_be_next, count_begun]:
            for thing in ANYTHING:
                if not isinstance(thing, (list, tuple)):
                    refused(self, BadOpened, {"index": 0}, lambda: call(NAMED_ROW, TOLD, thing))
                refused(self, BadOpened, {"index": 0}, lambda: call(NAMED_ROW, TOLD, [thing, thing]))
                refused(self, BadOpened, {"index": 2}, lambda: call(NAMED_ROW, TOLD, (CD, AB, thing, BC)))
            for opened, index in [([BC], 0), ([AB, BC], 1), ([AB, AB], 1), ([AB, ["h1", "h0"]], 1), ([DE, 7], 0),
                                  ([AB, CD, DE], 2), (TOLD + [AB], 4), (TOLD + [7], 4), ([CD, AB, DE[::-1]], 2)]:
                refused(self, BadOpened, {"index": index}, lambda: call(NAMED_ROW, TOLD, opened))
            self.assertRaises(BadOpened, call, LONE, [], [AB])

    def test_in_order(self):
        first = [(["valley"], [7], BadValley, {"thing": 7}), (["evening"], [()], BadEvening, {"evening": ()})]
        good = {"valley": NAMED_ROW, "evening": TOLD}
        for call in [count_alike, alike_number, next_alike]:
            refused_in_order(self, call, good, first)
        refused_in_order(self, always_ahead, {**good, "road": AB, "far": CD},
                         first + [(["road"], ["x"], BadRoad, {"road": "x"}), (["far"], ["y"], BadFar, {"far": "y"})])
        refused_in_order(self, alike_at, {**good, "number": 0},
                         first + [(["number"], [-1], BadNumber, {"number": -1})])
        for call in [can_be_next, count_begun]:
            refused_in_order(self, call, {**good, "opened": []},
                             first + [(["opened"], [[7]], BadOpened, {"index": 0})])


class AllEvenings(unittest.TestCase):
    def test_numbered(self):
        for valley in small_valleys(6):
            for alike in alike_ones(valley):
                held = plain_parts(valley, alike[0])
                product = 1
                for part in held.values():
                    product *= len([road for road in held if set(road) <= set(part)])
                self.assertEqual(factorial(len(held)) // product, len(alike))
                for number, evening in enumerate(alike):
                    self.assertEqual(count_alike(valley, evening), len(alike))
                    self.assertEqual(alike_number(valley, evening), number)
                    self.assertEqual(alike_at(valley, alike[-1], number), evening)
                    later = alike[number + 1] if number + 1 < len(alike) else None
                    self.assertEqual(next_alike(valley, evening), later)
                self.assertRaises(BadNumber, alike_at, valley, alike[0], len(alike))

    def test_ahead(self):
        for valley in small_valleys(6):
            for alike in alike_ones(valley):
                held = plain_parts(valley, alike[0])
                for road in held:
                    for far in held:
                        always = all(evening.index(road) < evening.index(far) for evening in alike)
                        self.assertIs(always_ahead(valley, alike[-1], road, far), always)
                        self.assertEqual(always, road != far and set(road) <= set(held[far]))

    def test_begun(self):
        for valley in small_valleys(6):
            for alike in alike_ones(valley):
                begins = {}
                for evening in alike:
                    for many in range(len(evening) + 1):
                        begins.setdefault(tuple(evening[:many]), []).append(evening)
                for begun, evenings in begins.items():
                    following = {evening[len(begun)] for evening in evenings if len(begun) < len(evening)}
                    told = can_be_next(valley, alike[0], list(begun))
                    self.assertEqual(told, [road for road in valley.roads() if road in following])
                    self.assertEqual(count_begun(valley, alike[-1], begun), len(evenings))
                    for road in valley.roads():
                        if road not in following:
                            refused(self, BadOpened, {"index": len(begun)},
                                    lambda: can_be_next(valley, alike[0], begun + (road,)))


class Sixty(unittest.TestCase):
    def test_numbers_there_and_back(self):
        for valley, evening in [*big_evenings(), (row(60), halved_evening(row(60)))]:
            many = count_alike(valley, evening)
            self.assertEqual(alike_at(valley, evening, 0), first_alike(valley, evening))
            self.assertIsNone(next_alike(valley, alike_at(valley, evening, many - 1)))
            for number in {many // 3, many // 2, max(0, many - 2)}:
                found = alike_at(valley, evening, number)
                self.assertTrue(are_alike(valley, evening, found))
                self.assertEqual(alike_number(valley, found), number)
                if number + 1 < many:
                    self.assertEqual(alike_number(valley, next_alike(valley, found)), number + 1)

    def test_begun(self):
        for valley, evening in [*big_evenings(), (row(60), halved_evening(row(60)))]:
            for many in range(0, len(evening), 9):
                begun = evening[:many]
                roads = can_be_next(valley, evening, begun)
                self.assertIn(evening[many], roads)
                behind = [count_begun(valley, evening, begun + [road]) for road in roads]
                self.assertEqual(sum(behind), count_begun(valley, evening, begun))
            self.assertEqual((can_be_next(valley, evening, evening), count_begun(valley, evening, evening)), ([], 1))

    def test_two_stretches(self):
        """Both halves of a row are opened outward from one end, then the road between them."""
        valley = row(60)
        roads = valley.roads()
        evening = roads[:29] + roads[30:] + [roads[29]]
        self.assertEqual(count_alike(valley, evening), comb(58, 29))
        self.assertEqual(alike_number(valley, evening), 0)
        self.assertEqual(alike_number(valley, roads[30:] + roads[:29] + [roads[29]]), comb(58, 29) - 1)
        self.assertEqual(can_be_next(valley, evening, roads[:5]), [roads[5], roads[30]])
        self.assertEqual(count_begun(valley, evening, roads[:5]), comb(53, 29))
        star_like = shuffled(valley, 3)
        self.assertIs(always_ahead(valley, evening, roads[0], roads[28]), True)
        self.assertIs(always_ahead(valley, evening, roads[0], roads[30]), False)
        self.assertEqual(alike_at(valley, star_like, 0), first_alike(valley, star_like))
