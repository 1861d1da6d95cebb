import functools
import itertools
import unittest

from feasted.dayplans import earliest_plan, fewest_days, is_plan
from feasted.errors import BadEvening, BadValley
from feasted.refusals import BadTeams
from feasted.teams import crowd, plan_by_teams, quickest
from tests.helpers import (ANYTHING, EVENING, EXAMPLE, LONE, TWO, all_evenings, all_plans, big_evenings,
                           keep_to_the_rules, plain_feasts, plain_numbers, refused, refused_in_order, row, small_valleys,
                           star, tree)
from tests.test_dayplans import ROW, ROWS_EVENING


class Example(unittest.TestCase):
    def told(self, function, expected, **more):
        keep_to_the_rules(self, function, {"valley": ROW, "evening": ROWS_EVENING, **more}, expected)

    def test_crowd(self):
        self.told(crowd, (0, ROW.roads()), teams=1)
        self.told(crowd, (1, ROW.roads()[:3]), teams=2)
        self.told(crowd, (2, [("a", "b"), ("c", "d")]), teams=3)
        self.told(crowd, (2, [("a", "b"), ("c", "d")]), teams=200)

    def test_plan(self):
        for teams, many in [(1, 4), (2, 3), (3, 3), (200, 3)]:
            plan = plan_by_teams(ROW, ROWS_EVENING, teams)
            self.told(plan_by_teams, plan, teams=teams)
            self.assertTrue(is_plan(ROW, ROWS_EVENING, plan))
            self.assertEqual((len(plan), max(len(day) for day in plan) <= teams), (many, True))

    def test_quickest(self):
        keep_to_the_rules(self, quickest, {"valley": ROW}, [("a", "b"), ("b", "c"), ("d", "e"), ("c", "d")])
        keep_to_the_rules(self, quickest, {"valley": EXAMPLE}, EXAMPLE.roads())
        keep_to_the_rules(self, quickest, {"valley": LONE}, [])
        keep_to_the_rules(self, quickest, {"valley": TWO}, [("a", "b")])

    def test_one_and_two_houses(self):
        self.assertEqual((plan_by_teams(LONE, [], 1), crowd(LONE, [], 5)), ([], (0, [])))
        self.assertEqual((plan_by_teams(TWO, [("b", "a")], 7), crowd(TWO, [("b", "a")], 7)),
                         ([[("a", "b")]], (0, [("a", "b")])))


class Refused(unittest.TestCase):
    def test_in_order(self):
        rows = [(["valley"], [7], BadValley, {"thing": 7}), (["evening"], ["x"], BadEvening, {"evening": "x"}),
                (["teams"], [0], BadTeams, {"teams": 0})]
        for function in (plan_by_teams, crowd):
            refused_in_order(self, function, {"valley": EXAMPLE, "evening": EVENING, "teams": 2}, rows)
        refused_in_order(self, quickest, {"valley": EXAMPLE}, rows[:1])
        for thing in ANYTHING:
            if not isinstance(thing, int) or isinstance(thing, bool) or thing < 1:
                for function in (plan_by_teams, crowd):
                    refused(self, BadTeams, {"teams": thing}, lambda: function(EXAMPLE, EVENING, thing))
                    refused(self, BadTeams, {"teams": thing}, lambda: function(LONE, [], thing))


def plain_crowd(valley, evening, teams):
    levels = plain_numbers(valley, evening)
    found = {}
    for behind in range(max(levels.values(), default=1)):
        roads = [road for road in levels if levels[road] > behind]
        found[behind] = behind + (len(roads) + teams - 1) // teams, roads
    best = max(days for days, _ in found.values())
    behind = min(each for each in found if found[each][0] == best)
    return best, (behind, found[behind][1])


class AllEvenings(unittest.TestCase):
    def test_teams(self):
        for valley in small_valleys(5):
            for evening in all_evenings(valley):
                plans = [days for days in all_plans(valley) if is_plan(valley, evening, days)]
                for teams in range(1, 6):
                    few = min(len(days) for days in plans if all(len(day) <= teams for day in days))
                    self.held_against(valley, evening, teams, few)

    def held_against(self, valley, evening, teams, few):
        days, expected = plain_crowd(valley, evening, teams)
        self.assertEqual(days, few)
        self.assertEqual(crowd(valley, evening, teams), expected)
        plan = plan_by_teams(valley, evening, teams)
        self.assertTrue(is_plan(valley, evening, plan))
        self.assertTrue(all(len(day) <= teams for day in plan))
        self.assertEqual(len(plan), few)

    def test_quickest(self):
        for valley in [*small_valleys(6), tree(7, 1), tree(7, 2), tree(7, 3)]:
            least = min(max(plain_feasts(valley, evening).values()) for evening in all_evenings(valley))
            first = next(evening for evening in all_evenings(valley)
                         if max(plain_feasts(valley, evening).values()) == least)
            self.assertEqual(quickest(valley), first)


def plain_least_days(valley):
    @functools.lru_cache(None)
    def least(roads):
        if not roads:
            return 0
        return 1 + min(max(least(side) for side in sides(roads, road)) for road in roads)

    def sides(roads, road):
        beyond = set(valley.side(*road))
        left = roads - {road}
        return [frozenset(far for far in left if set(far) <= beyond), frozenset(far for far in left if not set(far) <= beyond)]

    return least(frozenset(valley.roads()))


class Big(unittest.TestCase):
    def test_sixty(self):
        for valley, evening in big_evenings():
            for teams in (1, 2, 3, 7, 200):
                days, expected = plain_crowd(valley, evening, teams)
                self.assertEqual(crowd(valley, evening, teams), expected)
                plan = plan_by_teams(valley, evening, teams)
                self.assertTrue(is_plan(valley, evening, plan))
                self.assertEqual((len(plan), max(len(day) for day in plan) <= teams), (days, True))
            self.assertEqual(len(plan), len(earliest_plan(valley, evening)))

    def test_ten_rows_and_stars(self):
        for many in range(2, 11):
            self.assertEqual(fewest_days(row(many), quickest(row(many))), (many - 1).bit_length())
            for middle in (0, many - 1):
                self.assertEqual(quickest(star(many, middle=middle)), star(many, middle=middle).roads())

    def test_ten(self):
        for seed in range(5):
            valley = tree(10, seed)
            evening = quickest(valley)
            least = plain_least_days(valley)
            self.assertEqual(fewest_days(valley, evening), least)
            # Other evenings, many of them as quick, are behind it.
            place = {road: at for at, road in enumerate(valley.roads())}
            for other in itertools.islice(itertools.permutations(valley.roads()), 0, 4000):
                if [place[road] for road in other] < [place[road] for road in evening]:
                    self.assertGreater(fewest_days(valley, list(other)), least)
