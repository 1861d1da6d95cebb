import itertools
import math
import random
import unittest

from feasted.errors import BadEvening, BadValley, NoHouse, NoRoad
from feasted.evenings import are_alike
from feasted.joins import count_joins, join_of, joined_valley, joint_evening, side_evening, side_valley
from feasted.refusals import BadJoin, CommonHouse
from feasted.valleys import Valley
from tests.helpers import (ANYTHING, EVENING, EXAMPLE, LONE, all_evenings, alike_ones, big_evenings, frozen,
                           keep_to_the_rules, plain_parts, refused, refused_in_order, small_valleys)

AB = Valley(["b", "a"], [("a", "b")], [2, 3])
XY = Valley(["x", "y"], [("x", "y")], [5, 1])
JOINED = Valley(["b", "a", "x", "y"], [("a", "b"), ("x", "y"), ("b", "x")], [2, 3, 5, 1])
TWO_ROWS = {"first": AB, "evening": [("b", "a")], "second": XY, "other_evening": [("x", "y")], "house": "b", "far": "x"}


class Example(unittest.TestCase):
    def test_joined(self):
        self.assertEqual(joined_valley(AB, XY, "b", "x"), JOINED)
        self.assertEqual(joined_valley(far="x", house="b", second=XY, first=AB), JOINED)
        self.assertEqual(joined_valley(LONE, XY, "a", "y"),
                         Valley(["a", "x", "y"], [("x", "y"), ("a", "y")], [7, 5, 1]))
        self.assertEqual(joined_valley(XY, LONE, "x", "a"),
                         Valley(["x", "y", "a"], [("x", "y"), ("x", "a")], [5, 1, 7]))

    def test_sides(self):
        heads = Valley(EXAMPLE.houses(), EXAMPLE.roads(), [4, 1, 2, 8])
        for one, other, side in [("a", "b", Valley(["a"], [], [4])), ("d", "b", Valley(["d"], [], [8])),
                                 ("b", "d", Valley(["a", "b", "c"], [("a", "b"), ("b", "c")], [4, 1, 2])),
                                 ("b", "a", Valley(["b", "c", "d"], [("b", "c"), ("b", "d")], [1, 2, 8]))]:
            self.assertEqual(side_valley(heads, one, other), side)
            self.assertEqual(side_valley(other=other, one=one, valley=heads), side)
        for one, other, evening in [("a", "b", []), ("b", "a", [("b", "c"), ("b", "d")]), ("c", "b", []),
                                    ("b", "d", [("b", "c"), ("a", "b")]), ("b", "c", [("a", "b"), ("b", "d")])]:
            keep_to_the_rules(self, side_evening, {"valley": EXAMPLE, "evening": EVENING, "one": one, "other": other},
                              evening)

    def test_join_of(self):
        for one, other, join in [("b", "d", (2, 0, [])), ("d", "b", (0, 2, [])), ("b", "c", (0, 0, ["mine", "mine"])),
                                 ("c", "b", (0, 0, ["theirs", "theirs"])), ("a", "b", (0, 1, ["theirs"])),
                                 ("b", "a", (1, 0, ["mine"]))]:
            keep_to_the_rules(self, join_of, {"valley": EXAMPLE, "evening": EVENING, "one": one, "other": other}, join)

    def test_joint(self):
        self.assertEqual(count_joins(**TWO_ROWS), 5)
        good = dict(TWO_ROWS)
        ab, xy, bx = JOINED.roads()
        for join, evenings in [((0, 0, ["mine", "theirs"]), [[bx, ab, xy]]), ((0, 0, ["theirs", "mine"]), [[bx, xy, ab]]),
                               ((1, 0, ["theirs"]), [[ab, bx, xy]]), ((0, 1, ["mine"]), [[xy, bx, ab]]),
                               ((1, 1, []), [[ab, xy, bx], [xy, ab, bx]])]:
            told = joint_evening(**good, join=join)
            self.assertIn(told, evenings)
            keep_to_the_rules(self, joint_evening, {**good, "join": join}, told)
        self.assertEqual(count_joins(LONE, [], XY, [("y", "x")], "a", "x"), 2)
        self.assertEqual(joint_evening(LONE, [], XY, [("y", "x")], "a", "x", (0, 0, ["theirs"])),
                         [("a", "x"), ("x", "y")])
        self.assertEqual(joint_evening(LONE, [], Valley(["z"], [], [1]), [], "a", "z", (0, 0, [])), [("a", "z")])


class Refused(unittest.TestCase):
    def test_in_order(self):
        four = [(["first"], [7], BadValley, {"thing": 7}), (["second"], [8], BadValley, {"thing": 8}),
                (["second"], [AB], CommonHouse, {"name": "b"}), (["house"], ["x"], NoHouse, {"house": "x"}),
                (["far"], ["b"], NoHouse, {"house": "b"})]
        refused_in_order(self, joined_valley, {"first": AB, "second": XY, "house": "a", "far": "x"}, four)
        evenings = [(["evening"], ["v"], BadEvening, {"evening": "v"}),
                    (["other_evening"], ["w"], BadEvening, {"evening": "w"})]
        refused_in_order(self, count_joins, TWO_ROWS, four + evenings)
        refused_in_order(self, joint_evening, {**TWO_ROWS, "join": (1, 1, [])},
                         four + evenings + [(["join"], ["z"], BadJoin, {"join": "z"})])
        valley = (["valley"], [7], BadValley, {"thing": 7})
        evening = (["evening"], ["v"], BadEvening, {"evening": "v"})
        houses = [(["one"], ["x"], NoHouse, {"house": "x"}), (["other"], ["y"], NoHouse, {"house": "y"}),
                  (["one", "other"], ["a", "c"], NoRoad, {"one": "a", "other": "c"})]
        good = {"valley": EXAMPLE, "one": "b", "other": "a"}
        refused_in_order(self, side_valley, good, [valley] + houses)
        for function in (side_evening, join_of):
            refused_in_order(self, function, {**good, "evening": EVENING}, [valley, evening] + houses)

    def test_each(self):
        for thing in ANYTHING:
            for function in (side_evening, join_of):
                refused(self, NoHouse, {"house": thing}, lambda: function(EXAMPLE, EVENING, thing, None))
                refused(self, NoHouse, {"house": thing}, lambda: function(EXAMPLE, EVENING, "a", thing))
            refused(self, NoHouse, {"house": thing}, lambda: side_valley(EXAMPLE, thing, None))
            refused(self, NoHouse, {"house": thing}, lambda: side_valley(EXAMPLE, "a", thing))
            refused(self, NoHouse, {"house": thing}, lambda: joined_valley(AB, XY, thing, None))
            refused(self, NoHouse, {"house": thing}, lambda: joined_valley(AB, XY, "a", thing))
            if not isinstance(thing, Valley):
                refused(self, BadValley, {"thing": thing}, lambda: joined_valley(thing, None, None, None))
                refused(self, BadValley, {"thing": thing}, lambda: joined_valley(AB, thing, None, None))
        # The first of first's houses that is one of second's too, whatever second's order.
        refused(self, CommonHouse, {"name": EXAMPLE.houses()[0]}, lambda: joined_valley(EXAMPLE, AB, None, None))
        refused(self, CommonHouse, {"name": AB.houses()[0]}, lambda: joined_valley(AB, EXAMPLE, None, None))

    def test_join(self):
        wrong = [(2, 0, ["theirs"]), (0, 2, ["mine"]), (-1, 0, ["mine", "mine", "theirs"]), (1, 1, ["mine"]),
                 (1, 1, ["theirs"]), (0, 0, ["mine"]), (0, 0, ["mine", "mine"]), (0, 0, ["mine", "theirs", "mine"]),
                 (0, 0, ["mine", "theirs", None]), (0, 1, ["Mine"]), (0, 1, "mine"), (0, 1, {"mine": 1}), (True, 1, []),
                 (1, True, []), (1, 1), (1, 1, [], []), (1, 1, None), ("1", 1, []), {1: 1, 2: 1, 3: []}, "ab[",
                 (0, 1, [["mine"]]), (1, 0, [XY]), (1, None, ["theirs"])]
        for thing in [*wrong, *ANYTHING]:
            refused(self, BadJoin, {"join": thing}, lambda: joint_evening(**TWO_ROWS, join=thing))


def plain_own(valley, evening, one, other):
    """The roads that are one's own feasts."""
    side = [house for house in valley.houses() if house not in valley.side(one, other)]
    inner = Valley(side, [road for road in valley.roads() if road[0] in side and road[1] in side], [1] * len(side))
    own = [road for road in evening if road in inner.roads()]
    held = plain_parts(inner, own)
    return [road for road in own if one in held[road]]


class AllEvenings(unittest.TestCase):
    def test_sides_and_joins(self):
        for valley in small_valleys(5):
            for evening in all_evenings(valley):
                for road in valley.roads():
                    for one, other in (road, road[::-1]):
                        self.held_against(valley, evening, one, other)

    def held_against(self, valley, evening, one, other):
        beyond = valley.side(one, other)
        side = side_valley(valley, one, other)
        heads = dict(zip(valley.houses(), valley.heads()))
        self.assertEqual(side.houses(), [house for house in valley.houses() if house not in beyond])
        self.assertEqual(side.roads(), [road for road in valley.roads() if not set(road) & set(beyond)])
        self.assertEqual(side.heads(), [heads[house] for house in side.houses()])
        self.assertEqual(side_evening(valley, evening, one, other), [road for road in evening if road in side.roads()])
        mine = plain_own(valley, evening, one, other)
        theirs = plain_own(valley, evening, other, one)
        at = [set(road) for road in evening].index({one, other})
        rest = ["mine" if road in mine else "theirs" for road in evening[at:] if road in mine + theirs]
        self.assertEqual(join_of(valley, evening, one, other),
                         (len(set(mine) & set(evening[:at])), len(set(theirs) & set(evening[:at])), rest))

    def test_joint(self):
        """All joins of all evenings of both sides are all evenings of the joined valley, none alike to another."""
        for valley in small_valleys(5):
            for road in valley.roads():
                for one, other in (road, road[::-1]):
                    self.joint(valley, one, other)

    def joint(self, valley, one, other):
        first = side_valley(valley, one, other)
        second = side_valley(valley, other, one)
        joined = joined_valley(first, second, one, other)
        self.assertEqual(sorted(joined.houses()), sorted(valley.houses()))
        met = set()
        for evening, other_evening in itertools.product(alike_ones(first), alike_ones(second)):
            six = first, evening[-1], second, other_evening[0], one, other
            joins = list(self.all_joins(len(plain_own(joined, joined_order(joined, evening[-1]), one, other)),
                                        len(plain_own(joined, joined_order(joined, other_evening[0]), other, one))))
            self.assertEqual(count_joins(*six), len(joins))
            for join in joins:
                told = joint_evening(*six, join)
                self.assertEqual(join_of(joined, told, one, other), join)
                self.assertTrue(are_alike(first, side_evening(joined, told, one, other), evening[0]))
                self.assertTrue(are_alike(second, side_evening(joined, told, other, one), other_evening[0]))
                met.add(frozen(plain_parts(joined, told)))
        self.assertEqual(met, {frozen(plain_parts(joined, each[0])) for each in alike_ones(joined)})

    def all_joins(self, many, more):
        for mine in range(many + 1):
            for theirs in range(more + 1):
                words = ["mine"] * (many - mine) + ["theirs"] * (more - theirs)
                for rest in sorted(set(itertools.permutations(words))):
                    yield mine, theirs, list(rest)


def joined_order(joined, evening):
    """The whole valley's roads, those of one side's evening ahead, in its order."""
    return evening + [road for road in joined.roads() if road not in evening]


class Sixty(unittest.TestCase):
    def test_big(self):
        chance = random.Random(8)
        for valley, evening in big_evenings():
            one, other = chance.choice(valley.roads())
            first = side_valley(valley, one, other)
            second = side_valley(valley, other, one)
            joined = joined_valley(first, second, one, other)
            self.assertEqual(len(joined.houses()), 60)
            join = join_of(valley, evening, one, other)
            six = (first, side_evening(valley, evening, one, other), second, side_evening(valley, evening, other, one),
                   one, other)
            told = joint_evening(*six, join)
            self.assertEqual(join_of(joined, told, one, other), join)
            held = plain_parts(joined, told)
            was = plain_parts(valley, evening)
            for road in valley.roads():
                same = held[road if road in held else road[::-1]]
                self.assertEqual(sorted(same), sorted(was[road]))
            mine = len(plain_own(valley, evening, one, other))
            theirs = len(plain_own(valley, evening, other, one))
            self.assertEqual(count_joins(*six), math.comb(mine + theirs + 2, mine + 1) - 1)
