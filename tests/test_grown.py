import itertools
import unittest

from feasted.errors import BadEvening, BadFeasts, BadMany, BadValley, NoHouse, NoRoad
from feasted.evenings import at_table, feasts_of
from feasted.grown import joint_feasts, side_feasts, with_house, without_house
from feasted.joins import join_of, side_evening, side_valley
from feasted.refusals import BadJoin, BadName, BadPeople, CommonHouse, NotOuter
from feasted.valleys import Valley
from tests.helpers import (ANYTHING, EXAMPLE, LONE, TWO, all_evenings, big_evenings, big_valleys, keep_to_the_rules,
                           named, plain_feasts, plain_parts, refused, refused_in_order, small_valleys)
from tests.test_joins import AB, XY

FEASTS = named([2, 3, 3, 1])
TWO_ROWS = {"first": AB, "feasts": {"a": 1, "b": 1}, "second": XY, "other_feasts": {"x": 1, "y": 1}, "house": "b",
            "far": "x"}
# Of EXAMPLE, none an evening's: too light, too heavy, of weight 1 but halved by nothing.
NO_FEASTS = [named([3, 3, 3, 1]), named([1, 3, 3, 1]), named([2, 2, 2, 2])]


class Example(unittest.TestCase):
    def test_joint(self):
        for join, numbers in [((0, 0, ["mine", "theirs"]), [3, 2, 3, 1]), ((0, 0, ["theirs", "mine"]), [3, 1, 3, 2]),
                              ((1, 0, ["theirs"]), [3, 3, 2, 1]), ((0, 1, ["mine"]), [2, 1, 3, 3]),
                              ((1, 1, []), [2, 2, 2, 2])]:
            keep_to_the_rules(self, joint_feasts, {**TWO_ROWS, "join": join}, named(numbers, "baxy"))

    def test_side(self):
        for one, other, feasts in [("b", "d", {"a": 1, "b": 2, "c": 2}), ("d", "b", {"d": 0}), ("a", "b", {"a": 0}),
                                   ("b", "a", {"b": 2, "c": 2, "d": 1}), ("b", "c", {"a": 2, "b": 2, "d": 1})]:
            keep_to_the_rules(self, side_feasts, {"valley": EXAMPLE, "feasts": FEASTS, "one": one, "other": other}, feasts)
        self.assertEqual(side_feasts(TWO, {"a": 1, "b": 1}, "a", "b"), {"a": 0})

    def test_with_house(self):
        two = Valley(["a", "b"], [("a", "b")], [1, 1])
        grown = Valley(["a", "b", "x"], [("a", "b"), ("b", "x")], [1, 1, 9])
        for many, feasts in [(1, {"a": 2, "b": 2, "x": 1}), (0, {"a": 1, "b": 2, "x": 2})]:
            told = with_house(two, {"b": 1, "a": 1}, "x", 9, "b", many)
            self.assertIsInstance(told, tuple)
            self.assertEqual(told, (grown, feasts))
            self.assertEqual(list(told[1]), ["a", "b", "x"])
            self.assertEqual(with_house(many=many, house="b", people=9, name="x", feasts={"a": 1, "b": 1}, valley=two), told)
        self.assertEqual(with_house(LONE, {"a": 0}, "b2", 10 ** 15, "a", 0),
                         (Valley(["a", "b2"], [("a", "b2")], [7, 10 ** 15]), {"a": 1, "b2": 1}))

    def test_without_house(self):
        told = without_house(EXAMPLE, FEASTS, "d")
        self.assertIsInstance(told, tuple)
        self.assertEqual(told, (Valley(["a", "b", "c"], [("a", "b"), ("b", "c")], [1, 1, 1]), {"a": 1, "b": 2, "c": 2}))
        self.assertEqual(without_house(house="c", feasts=FEASTS, valley=EXAMPLE),
                         (Valley(["a", "b", "d"], [("a", "b"), ("b", "d")], [1, 1, 1]), {"a": 2, "b": 2, "d": 1}))
        self.assertEqual(without_house(TWO, {"a": 1, "b": 1}, "b"), (Valley(["a"], [], [4]), {"a": 0}))


class Refused(unittest.TestCase):
    def test_joint(self):
        bad, worse = named([0, 0]), {"x": 2, "y": 2}
        rows = [(["first"], [7], BadValley, {"thing": 7}), (["second"], [8], BadValley, {"thing": 8}),
                (["second"], [AB], CommonHouse, {"name": "b"}), (["house"], ["x"], NoHouse, {"house": "x"}),
                (["far"], ["b"], NoHouse, {"house": "b"}), (["feasts"], [bad], BadFeasts, {"feasts": bad}),
                (["other_feasts"], [worse], BadFeasts, {"feasts": worse}), (["join"], ["z"], BadJoin, {"join": "z"})]
        refused_in_order(self, joint_feasts, {**TWO_ROWS, "join": (1, 1, [])}, rows)
        for thing in ANYTHING:
            good = {**TWO_ROWS, "join": (1, 1, [])}
            refused(self, BadFeasts, {"feasts": thing}, lambda: joint_feasts(**{**good, "feasts": thing}))
            refused(self, BadFeasts, {"feasts": thing}, lambda: joint_feasts(**{**good, "other_feasts": thing}))
            refused(self, BadJoin, {"join": thing}, lambda: joint_feasts(**{**good, "join": thing}))
        for thing in [(2, 0, ["theirs"]), (1, 1, ["mine"]), (0, 0, ["mine"])]:
            refused(self, BadJoin, {"join": thing}, lambda: joint_feasts(**TWO_ROWS, join=thing))

    def test_in_order(self):
        for feasts in NO_FEASTS + [{"a": 1}]:
            first = [(["valley"], [7], BadValley, {"thing": 7}), (["feasts"], [feasts], BadFeasts, {"feasts": feasts})]
            houses = [(["one"], ["x"], NoHouse, {"house": "x"}), (["other"], ["y"], NoHouse, {"house": "y"}),
                      (["one", "other"], ["a", "c"], NoRoad, {"one": "a", "other": "c"})]
            good = {"valley": EXAMPLE, "feasts": FEASTS}
            refused_in_order(self, side_feasts, {**good, "one": "b", "other": "a"}, first + houses)
            refused_in_order(self, with_house, {**good, "name": "n", "people": 1, "house": "a", "many": 2}, first + [
                (["name"], ["d"], BadName, {"name": "d"}), (["people"], [0], BadPeople, {"people": 0}),
                (["house"], ["x"], NoHouse, {"house": "x"}), (["many"], [-1], BadMany, {"many": -1})])
            refused_in_order(self, without_house, {**good, "house": "a"}, first + [
                (["house"], ["x"], NoHouse, {"house": "x"})])

    def test_each(self):
        good = {"valley": EXAMPLE, "feasts": FEASTS, "name": "n", "people": 1, "house": "a", "many": 2}
        for thing in ANYTHING + ["a", "b", "n ", "N", "abcdefghi", "9a"]:
            if thing not in ("zz", "ab"):
                refused(self, BadName, {"name": thing}, lambda: with_house(**{**good, "name": thing}))
            if not isinstance(thing, int) or isinstance(thing, bool) or thing < 1:
                refused(self, BadPeople, {"people": thing}, lambda: with_house(**{**good, "people": thing}))
            if not isinstance(thing, int) or isinstance(thing, bool) or not 0 <= thing <= 2:
                refused(self, BadMany, {"many": thing}, lambda: with_house(**{**good, "many": thing}))
            if thing not in ("a", "b"):
                refused(self, NoHouse, {"house": thing}, lambda: with_house(**{**good, "house": thing}))
                refused(self, NoHouse, {"house": thing}, lambda: without_house(EXAMPLE, FEASTS, thing))
                refused(self, NoHouse, {"house": thing}, lambda: side_feasts(EXAMPLE, FEASTS, thing, "b"))
                refused(self, NoHouse, {"house": thing}, lambda: side_feasts(EXAMPLE, FEASTS, "b", thing))
        refused(self, BadMany, {"many": 3}, lambda: with_house(**{**good, "many": 3}))
        refused(self, BadMany, {"many": 2}, lambda: with_house(**{**good, "house": "d"}))
        refused(self, NotOuter, {"house": "b"}, lambda: without_house(EXAMPLE, FEASTS, "b"))
        refused(self, NotOuter, {"house": "a"}, lambda: without_house(LONE, {"a": 0}, "a"))
        # An evening is no feasts, nor the other way about: what is passed on is refused by its own name.
        with self.assertRaises(BadFeasts):
            side_feasts(EXAMPLE, [("b", "c"), ("a", "b"), ("b", "d")], "a", "b")
        with self.assertRaises(BadEvening):
            side_evening(EXAMPLE, FEASTS, "a", "b")


def opened_with(valley, evening, road, house, many):
    """The evening, this road being opened as soon as the house had so many feasts."""
    held = plain_parts(valley, evening)
    had = [len([far for far in evening[:at] if house in held[far]]) for at in range(len(evening) + 1)]
    at = had.index(many)
    return evening[:at] + [road] + evening[at:]


class AllEvenings(unittest.TestCase):
    def test_sides_and_joins(self):
        for valley in small_valleys(5):
            for evening in all_evenings(valley):
                feasts = plain_feasts(valley, evening)
                for one, other in itertools.chain(valley.roads(), [road[::-1] for road in valley.roads()]):
                    self.one_road(valley, evening, feasts, one, other)

    def one_road(self, valley, evening, feasts, one, other):
        first, second = side_valley(valley, one, other), side_valley(valley, other, one)
        mine = side_feasts(valley, feasts, one, other)
        theirs = side_feasts(valley, feasts, other, one)
        self.assertEqual(repr(mine), repr(plain_feasts(first, side_evening(valley, evening, one, other))))
        told = joint_feasts(first, mine, second, theirs, one, other, join_of(valley, evening, one, other))
        self.assertEqual(told, feasts)
        self.assertEqual(list(told), first.houses() + second.houses())

    def test_more_and_less(self):
        for valley in small_valleys(5):
            for evening in all_evenings(valley):
                feasts = plain_feasts(valley, evening)
                for house in valley.houses():
                    for many in range(feasts[house] + 1):
                        self.more(valley, evening, feasts, house, many)
                    self.less(valley, evening, feasts, house)

    def more(self, valley, evening, feasts, house, many):
        grown, told = with_house(valley, feasts, "new", 4, house, many)
        self.assertEqual(grown, Valley(valley.houses() + ["new"], valley.roads() + [(house, "new")], valley.heads() + [4]))
        longer = opened_with(valley, evening, (house, "new"), house, many)
        self.assertEqual(repr(told), repr(plain_feasts(grown, longer)))
        there = [house] if many == 0 else at_table(valley, evening, house)[many - 1]
        self.assertEqual(told["new"], 1 + feasts[house] - many)
        self.assertEqual([far for far in valley.houses() if told[far] != feasts[far]], there)
        self.assertTrue(all(told[far] == feasts[far] + 1 for far in there))
        self.assertEqual(without_house(grown, told, "new"), (valley, feasts))

    def less(self, valley, evening, feasts, house):
        own = [road for road in valley.roads() if house in road]
        if len(own) != 1:
            refused(self, NotOuter, {"house": house}, lambda: without_house(valley, feasts, house))
            return
        left, told = without_house(valley, feasts, house)
        kept = [at for at, far in enumerate(valley.houses()) if far != house]
        self.assertEqual(left, Valley([valley.houses()[at] for at in kept],
                                      [road for road in valley.roads() if road not in own],
                                      [valley.heads()[at] for at in kept]))
        self.assertEqual(repr(told), repr(plain_feasts(left, [road for road in evening if road not in own])))


class Sixty(unittest.TestCase):
    def test_big(self):
        for valley, evening in big_evenings(59):
            feasts = feasts_of(valley, evening)
            for house in valley.houses()[::29]:
                for many in {0, feasts[house] // 2, feasts[house]}:
                    grown, told = with_house(valley, feasts, "new", 10 ** 15, house, many)
                    self.assertEqual(told["new"], 1 + feasts[house] - many)
                    self.assertEqual(without_house(grown, told, "new"), (valley, feasts))
            one, other = evening[29]
            first, second = side_valley(valley, one, other), side_valley(valley, other, one)
            mine, theirs = side_feasts(valley, feasts, one, other), side_feasts(valley, feasts, other, one)
            join = join_of(valley, evening, one, other)
            self.assertEqual(joint_feasts(first, mine, second, theirs, one, other, join), feasts)

    def test_numbers_of_any_size(self):
        """What is refused may be however great."""
        for valley in big_valleys():
            feasts = {house: 10 ** 30 for house in valley.houses()}
            refused(self, BadFeasts, {"feasts": feasts}, lambda: without_house(valley, feasts, None))
            refused(self, BadFeasts, {"feasts": feasts}, lambda: with_house(valley, feasts, None, None, None, None))
            refused(self, BadFeasts, {"feasts": feasts}, lambda: side_feasts(valley, feasts, None, None))
