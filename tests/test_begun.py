import itertools
import random
import unittest

from feasted.begun import begun_break, begun_of_feasts, feasts_so_far, is_begun, is_open, lots, open_roads
from feasted.errors import BadFeasts, BadValley, NoHouse, NoRoad
from feasted.halves import feasts_break
from feasted.refusals import BadBegun
from tests.helpers import (ANYTHING, EXAMPLE, LONE, TWO, all_begun, all_books, big_evenings, frozen,
                           keep_to_the_rules, named, nearly, plain_lots, plain_parts, plain_so_far, refused,
                           refused_in_order, share, small_valleys)
from tests.test_dayplans import ROW

BEGUN = [("d", "e"), ("a", "b")]


class Example(unittest.TestCase):
    def told(self, function, expected, **more):
        keep_to_the_rules(self, function, {"valley": ROW, **more}, expected)

    def test_begun(self):
        self.told(feasts_so_far, named([1, 1, 0, 1, 1]), begun=BEGUN)
        self.told(lots, [["a", "b"], ["c"], ["d", "e"]], begun=BEGUN)
        self.told(feasts_so_far, named([0] * 5), begun=[])
        self.told(lots, [["a"], ["b"], ["c"], ["d"], ["e"]], begun=())
        self.told(feasts_so_far, named([0, 1, 2, 2, 0]), begun=[("d", "c"), ("c", "b")])
        self.told(lots, [["a"], ["b", "c", "d"], ["e"]], begun=[("d", "c"), ("c", "b")])
        self.told(lots, [["a", "b", "c", "d", "e"]], begun=ROW.roads())

    def test_is_begun(self):
        for thing in ([], (), BEGUN, [("b", "a")], [["b", "a"], ("c", "d")], ROW.roads(), ROW.roads()[::-1]):
            self.told(is_begun, True, thing=thing)
        for thing in (BEGUN + BEGUN[:1], [("a", "b"), ("b", "a")], [("a", "c")], [("a",)], [("a", "b", "c")], ["ab"],
                      "ab", [BEGUN], {("a", "b"): 1}, [("a", "b"), None], ROW.roads() + [("a", "b")]):
            self.told(is_begun, False, thing=thing)

    def test_open(self):
        feasts = named([1, 1, 0, 1, 1])
        for one, other, expected in [("a", "b", True), ("b", "a", True), ("b", "c", False), ("d", "c", False),
                                     ("e", "d", True)]:
            self.told(is_open, expected, feasts=feasts, one=one, other=other)
        self.told(open_roads, [("a", "b"), ("d", "e")], feasts=feasts)
        self.told(begun_of_feasts, [("a", "b"), ("d", "e")], feasts=feasts)
        self.told(begun_break, None, feasts=feasts)

    def test_more(self):
        feasts = named([1, 2, 2, 0, 0])
        self.told(open_roads, [("a", "b"), ("b", "c")], feasts=feasts)
        self.told(begun_of_feasts, [("b", "c"), ("a", "b")], feasts=feasts)
        feasts = named([1, 1, 1, 0, 0])
        self.told(open_roads, [("a", "b"), ("c", "d"), ("d", "e")], feasts=feasts)
        self.told(begun_break, ("lot", ["c", "d", "e"], (5, 2)), feasts=feasts)
        self.told(begun_of_feasts, None, feasts=feasts)

    def test_first_side(self):
        # Of the road ("a", "b") the one side weighs 1, the other one a half, or the other way about.
        self.told(is_open, False, feasts=named([0, 3, 3, 3, 3]), one="b", other="a")
        self.told(is_open, True, feasts=named([1, 2, 2, 2, 2]), one="b", other="a")
        keep_to_the_rules(self, is_open, {"valley": TWO, "feasts": {"a": 0, "b": 1}, "one": "b", "other": "a"}, False)
        keep_to_the_rules(self, is_open, {"valley": TWO, "feasts": {"a": 1, "b": 0}, "one": "b", "other": "a"}, True)
        keep_to_the_rules(self, begun_break, {"valley": TWO, "feasts": {"a": 1, "b": 0}},
                          ("lot", ["b", "a"], (3, 2)))
        keep_to_the_rules(self, begun_break, {"valley": TWO, "feasts": {"a": 0, "b": 1}}, ("lot", ["b"], (1, 2)))

    def test_part(self):
        feasts = {"a": 2, "b": 2, "c": 2, "d": 2}
        keep_to_the_rules(self, begun_break, {"valley": EXAMPLE, "feasts": feasts}, ("part", ["a", "b", "c", "d"]))
        keep_to_the_rules(self, begun_of_feasts, {"valley": EXAMPLE, "feasts": feasts}, None)
        feasts = {"a": 1, "b": 2, "c": 3, "d": 3}
        keep_to_the_rules(self, begun_break, {"valley": EXAMPLE, "feasts": feasts}, ("part", ["b", "c", "d"]))

    def test_one_house(self):
        self.assertEqual((is_begun(LONE, []), feasts_so_far(LONE, []), lots(LONE, [])), (True, {"a": 0}, [["a"]]))
        self.assertEqual((open_roads(LONE, {"a": 5}), begun_of_feasts(LONE, {"a": 0}), begun_break(LONE, {"a": 0})),
                         ([], [], None))
        self.assertEqual((begun_of_feasts(LONE, {"a": 2}), begun_break(LONE, {"a": 2})), (None, ("lot", ["a"], (1, 4))))


class Refused(unittest.TestCase):
    def test_any_object(self):
        for thing in ANYTHING:
            self.assertIs(is_begun(EXAMPLE, [("b", "d"), thing]), False)
            is_one = thing in ([], (), [["a", "b"]])
            self.assertIs(is_begun(EXAMPLE, thing), is_one)
            for function in (feasts_so_far, lots) * (not is_one):
                refused(self, BadBegun, {"begun": thing}, lambda: function(EXAMPLE, thing))
            for function in (open_roads, begun_of_feasts, begun_break):
                refused(self, BadFeasts, {"feasts": thing}, lambda: function(EXAMPLE, thing))
            refused(self, BadFeasts, {"feasts": thing}, lambda: is_open(EXAMPLE, thing, None, None))
            refused(self, NoHouse, {"house": thing}, lambda: is_open(EXAMPLE, named([0] * 4), thing, None))
            refused(self, NoHouse, {"house": thing}, lambda: is_open(EXAMPLE, named([0] * 4), "a", thing))

    def test_in_order(self):
        valley = (["valley"], [7], BadValley, {"thing": 7})
        begun = (["begun"], ["x"], BadBegun, {"begun": "x"})
        feasts = (["feasts"], ["x"], BadFeasts, {"feasts": "x"})
        refused_in_order(self, is_begun, {"valley": EXAMPLE, "thing": []}, [valley])
        for function in (feasts_so_far, lots):
            refused_in_order(self, function, {"valley": EXAMPLE, "begun": []}, [valley, begun])
        good = {"valley": EXAMPLE, "feasts": named([0] * 4)}
        for function in (open_roads, begun_of_feasts, begun_break):
            refused_in_order(self, function, good, [valley, feasts])
        refused_in_order(self, is_open, {**good, "one": "a", "other": "b"}, [
            valley, feasts, (["one"], ["x"], NoHouse, {"house": "x"}), (["other"], ["y"], NoHouse, {"house": "y"}),
            (["one", "other"], ["c", "a"], NoRoad, {"one": "c", "other": "a"})])
        refused(self, NoRoad, {"one": "b", "other": "b"}, lambda: is_open(EXAMPLE, named([0] * 4), "b", "b"))


class AllBegun(unittest.TestCase):
    def test_begun(self):
        for valley in small_valleys(5):
            first = {}
            open_by = {}
            for begun in all_begun(valley):
                feasts = plain_so_far(valley, begun)
                self.assertTrue(is_begun(valley, begun))
                self.assertEqual(repr(feasts_so_far(valley, begun)), repr(feasts))
                self.assertEqual(lots(valley, begun), plain_lots(valley, begun))
                first.setdefault(frozen(feasts), begun)
                known = open_by.setdefault(frozen(feasts), (sorted(begun), plain_parts_so_far(valley, begun)))
                self.assertEqual(known, (sorted(begun), plain_parts_so_far(valley, begun)))
            for feasts in {frozen(book): book for key in first for book in nearly(dict(key), range(5))}.values():
                self.held_against(valley, feasts, first)
            for key, (roads, _) in open_by.items():
                self.assertEqual(sorted(open_roads(valley, dict(key))), roads)

    def test_all_books(self):
        for valley in small_valleys(4):
            first = {}
            for begun in all_begun(valley):
                first.setdefault(frozen(plain_so_far(valley, begun)), begun)
            for feasts in all_books(valley.houses(), range(4)):
                self.held_against(valley, feasts, first)

    def held_against(self, valley, feasts, first):
        self.assertEqual(begun_of_feasts(valley, feasts), first.get(frozen(feasts)))
        opened = []
        for one, other in valley.roads():
            side = valley.side(other, one)
            is_whole = share(sum(2 ** (20 - feasts[house]) for house in side), 2 ** 20)[1] == 1
            self.assertEqual(is_open(valley, feasts, other, one), not is_whole)
            self.assertEqual(is_open(valley, feasts, one, other), not is_whole)
            opened += [] if is_whole else [(one, other)]
        self.assertEqual(open_roads(valley, feasts), opened)
        broken = plain_break(valley, feasts, opened)
        self.assertEqual(begun_break(valley, feasts), broken)
        self.assertEqual(broken is None, frozen(feasts) in first)


def plain_parts_so_far(valley, begun):
    return {road: plain_parts(valley, begun + [far for far in valley.roads() if far not in begun])[road]
            for road in sorted(begun)}


def plain_break(valley, feasts, opened):
    joined = plain_lots(valley, opened)
    weights = [share(sum(2 ** (20 - feasts[house]) for house in lot), 2 ** 20) for lot in joined]
    for lot, weight in zip(joined, weights):
        if weight != (1, 1):
            return "lot", lot, weight
    for lot in joined:
        broken = feasts_break(inner_valley(valley, lot), {house: feasts[house] for house in lot})
        if broken is not None:
            return broken
    return None


def inner_valley(valley, lot):
    """A lot as a valley by itself."""
    roads = [road for road in valley.roads() if road[0] in lot and road[1] in lot]
    return valley.__class__(lot, roads, [1] * len(lot))


class Sixty(unittest.TestCase):
    def test_big(self):
        chance = random.Random(2)
        for valley, evening in big_evenings():
            for many in (0, 1, 30, 59):
                begun = evening[:many]
                feasts = feasts_so_far(valley, begun)
                self.assertEqual(feasts, plain_so_far(valley, begun))
                self.assertEqual(lots(valley, begun), plain_lots(valley, begun))
                self.assertEqual(sorted(open_roads(valley, feasts)), sorted(begun))
                told = begun_of_feasts(valley, feasts)
                self.assertEqual(sorted(told), sorted(begun))
                self.assertEqual(feasts_so_far(valley, told), feasts)
                places = {road: at for at, road in enumerate(valley.roads())}
                self.assertLessEqual([places[road] for road in told], [places[road] for road in begun])
                self.assertIsNone(begun_break(valley, feasts))
                feasts[chance.choice(valley.houses())] += 1
                self.assertEqual(begun_break(valley, feasts)[0], "lot")

    def test_deep(self):
        for valley, _ in itertools.islice(big_evenings(), 0, None, 4):
            feasts = {house: 300 for house in valley.houses()}
            self.assertEqual(open_roads(valley, feasts), valley.roads())
            self.assertEqual(begun_break(valley, feasts), ("lot", valley.houses(), share(60, 2 ** 300)))
