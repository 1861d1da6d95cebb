import itertools
import math
import unittest

from feasted.dayplans import count_days, day_spans, earliest_plan, fewest_days, is_plan
from feasted.errors import BadEvening, BadValley
from feasted.refusals import BadDays
from tests.helpers import (ANYTHING, EVENING, EXAMPLE, LONE, TWO, all_evenings, all_plans, big_evenings, keep_to_the_rules,
                           plain_feasts, plain_numbers, plain_parts, refused, refused_in_order, row, small_valleys)
from feasted.valleys import Valley

ROW = Valley(["a", "b", "c", "d", "e"], [("a", "b"), ("b", "c"), ("c", "d"), ("d", "e")], [1] * 5)
ROWS_EVENING = [("a", "b"), ("c", "d"), ("b", "c"), ("d", "e")]
PLAN = [[("a", "b"), ("c", "d")], [("b", "c")], [("d", "e")]]


class Example(unittest.TestCase):
    def told(self, function, expected, **more):
        keep_to_the_rules(self, function, {"valley": ROW, "evening": ROWS_EVENING, **more}, expected)

    def test_row(self):
        self.told(fewest_days, 3)
        self.told(earliest_plan, PLAN)
        self.told(day_spans, {("a", "b"): (1, 3), ("b", "c"): (2, 4), ("c", "d"): (1, 3), ("d", "e"): (3, 5)}, days=5)
        self.told(count_days, 20, days=5)
        self.told(day_spans, {("a", "b"): (1, 1), ("b", "c"): (2, 2), ("c", "d"): (1, 1), ("d", "e"): (3, 3)}, days=3)
        self.told(count_days, 1, days=3)
        for days in range(3):
            self.told(day_spans, None, days=days)
            self.told(count_days, 0, days=days)

    def test_is_plan(self):
        ab, bc, cd, de = ROW.roads()
        for plan in [PLAN, [[cd, ab], [bc], [de]], [[cd], [ab], [bc], [de]], [[("d", "c"), ("b", "a")], [bc], [de]],
                     ([ab], [cd], [bc], [de])]:
            self.told(is_plan, True, thing=plan)
        for plan in [[[ab], [cd, bc], [de]], [[ab, cd], [bc, de]], [[ab, cd], [de], [bc]], [[ab, cd], [], [bc], [de]],
                     [[ab, cd], [bc], [de], []], [[ab, cd], [bc]], [[ab, cd], [bc], [de, de]], [[ab, cd], [bc], [de, ab]],
                     [[ab, ("b", "a"), cd], [bc], [de]], [ab, cd, bc, de], ROWS_EVENING, [PLAN], [[ab, cd], bc, [de]],
                     [[ab, cd], [bc], [de], None], [[ab, cd], [bc], [("d", "f")]], [[ab, cd], "bc", [de]],
                     [{0: ab, 1: cd}, [bc], [de]], {0: [ab, cd], 1: [bc], 2: [de]}]:
            self.told(is_plan, False, thing=plan)

    def test_one_and_two_houses(self):
        self.assertEqual((fewest_days(LONE, []), earliest_plan(LONE, [])), (0, []))
        self.assertEqual((is_plan(LONE, [], []), is_plan(LONE, [], ()), is_plan(LONE, [], [[]])), (True, True, False))
        self.assertEqual((day_spans(LONE, [], 0), day_spans(LONE, [], 7)), ({}, {}))
        self.assertEqual((count_days(LONE, [], 0), count_days(LONE, [], 7)), (1, 1))
        evening = [("b", "a")]
        self.assertEqual((fewest_days(TWO, evening), earliest_plan(TWO, evening)), (1, [[("a", "b")]]))
        self.assertEqual((day_spans(TWO, evening, 0), day_spans(TWO, evening, 4)), (None, {("a", "b"): (1, 4)}))
        self.assertEqual([count_days(TWO, evening, days) for days in (0, 1, 200)], [0, 1, 200])


class Refused(unittest.TestCase):
    def test_any_object(self):
        for thing in ANYTHING:
            self.assertIs(is_plan(EXAMPLE, EVENING, thing), False)
            self.assertIs(is_plan(EXAMPLE, EVENING, [thing]), False)
            self.assertIs(is_plan(EXAMPLE, EVENING, [[thing]]), False)

    def test_in_order(self):
        good = {"valley": EXAMPLE, "evening": EVENING}
        first = [(["valley"], [7], BadValley, {"thing": 7}), (["evening"], ["x"], BadEvening, {"evening": "x"})]
        refused_in_order(self, is_plan, {**good, "thing": []}, first)
        refused_in_order(self, fewest_days, good, first)
        refused_in_order(self, earliest_plan, good, first)
        for function in (day_spans, count_days):
            refused_in_order(self, function, {**good, "days": 4}, first + [(["days"], ["x"], BadDays, {"days": "x"})])

    def test_days(self):
        for thing in ANYTHING:
            if not isinstance(thing, int) or isinstance(thing, bool) or thing < 0:
                refused(self, BadDays, {"days": thing}, lambda: day_spans(EXAMPLE, EVENING, thing))
                refused(self, BadDays, {"days": thing}, lambda: count_days(EXAMPLE, EVENING, thing))
                refused(self, BadDays, {"days": thing}, lambda: count_days(LONE, [], thing))


def makes_no_difference(valley, held, days):
    """The parts come out the same, in whatever order the roads of each day are opened."""
    for orders in itertools.product(*[itertools.permutations(day) for day in days]):
        if plain_parts(valley, [road for order in orders for road in order]) != held:
            return False
    return True


class AllEvenings(unittest.TestCase):
    def test_plans(self):
        for valley in small_valleys(5):
            for evening in all_evenings(valley):
                held = plain_parts(valley, evening)
                plans = [days for days in all_plans(valley) if makes_no_difference(valley, held, days)]
                for days in all_plans(valley):
                    self.assertEqual(is_plan(valley, evening, days), days in plans)
                self.fewest(valley, evening, plans)

    def fewest(self, valley, evening, plans):
        self.assertEqual(fewest_days(valley, evening), min(len(days) for days in plans))
        self.assertEqual(fewest_days(valley, evening), max(plain_feasts(valley, evening).values()))
        first = {road: min(at for days in plans for at, day in enumerate(days) if road in day)
                 for road in valley.roads()}
        told = earliest_plan(valley, evening)
        self.assertIn([sorted(day) for day in told], [[sorted(day) for day in days] for days in plans])
        self.assertEqual(told, [[road for road in valley.roads() if first[road] == at] for at in range(len(told))])

    def test_days(self):
        for valley in small_valleys(5):
            roads = valley.roads()
            for evening in all_evenings(valley):
                held = plain_parts(valley, evening)
                behind = [(road, far) for road in roads for far in roads if far != road and set(far) <= set(held[road])]
                for days in range(6):
                    every = [dict(zip(roads, one)) for one in itertools.product(range(1, days + 1), repeat=len(roads))]
                    let = [one for one in every if all(one[road] > one[far] for road, far in behind)]
                    self.assertEqual(count_days(valley, evening, days), len(let))
                    spans = {road: (min(one[road] for one in let), max(one[road] for one in let))
                             for road in roads} if let else None
                    self.assertEqual(repr(day_spans(valley, evening, days)), repr(spans))


class Sixty(unittest.TestCase):
    def test_big(self):
        for valley, evening in big_evenings():
            feasts = plain_feasts(valley, evening)
            plan = earliest_plan(valley, evening)
            self.assertEqual(len(plan), max(feasts.values()))
            self.assertEqual(fewest_days(valley, evening), len(plan))
            self.assertTrue(is_plan(valley, evening, plan))
            self.assertTrue(is_plan(valley, evening, [[road] for road in evening]))
            self.assertFalse(is_plan(valley, evening, [[road] for road in evening[::-1]]))
            numbers = plain_numbers(valley, evening)
            spans = day_spans(valley, evening, 200)
            self.assertEqual({road: 201 - spans[road][1] for road in spans}, numbers)
            day_of = {road: day for day, some in enumerate(plan, 1) for road in some}
            self.assertEqual({road: spans[road][0] for road in spans}, {road: day_of[road] for road in spans})
            self.assertIsNone(day_spans(valley, evening, len(plan) - 1))
            self.assertEqual(count_days(valley, evening, len(plan) - 1), 0)
            self.assertGreater(count_days(valley, evening, 200), 0)

    def test_one_behind_another(self):
        valley = row(60)
        self.assertEqual(count_days(valley, valley.roads(), 200), math.comb(200, 59))
        self.assertEqual(count_days(valley, valley.roads()[::-1], 59), 1)
