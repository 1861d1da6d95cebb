import unittest

from feasted.errors import BadFeasts, BadHeads, BadHouses, BadRoads, NoHouse, NoRoad
from feasted.valleys import Valley
from tests.helpers import ANYTHING, EXAMPLE, LONE, big_valleys, keep_to_the_rules, names_of, refused, row, small_valleys

HOUSES = ["a", "b", "c"]
ROADS = [("a", "b"), ("c", "b")]
HEADS = [1, 2, 3]


class Made(unittest.TestCase):
    def test_what_it_is_made_of(self):
        valley = Valley(HOUSES, ROADS, HEADS)
        self.assertEqual(valley.houses(), ["a", "b", "c"])
        self.assertEqual(repr(valley.roads()), repr([("a", "b"), ("c", "b")]))
        self.assertEqual(valley.heads(), [1, 2, 3])

    def test_by_names_and_of_tuples(self):
        valley = Valley(heads=(1, 2, 3), roads=(["a", "b"], ["c", "b"]), houses=("a", "b", "c"))
        self.assertEqual(valley, Valley(HOUSES, ROADS, HEADS))
        self.assertEqual(repr(valley.roads()), repr([("a", "b"), ("c", "b")]))
        self.assertEqual(repr(valley.houses()), repr(HOUSES))
        self.assertEqual(repr(valley.heads()), repr(HEADS))

    def test_one_house(self):
        self.assertEqual((LONE.houses(), LONE.roads(), LONE.heads()), (["a"], [], [7]))
        self.assertEqual(Valley(("a",), (), (10 ** 15,)).heads(), [10 ** 15])

    def test_names(self):
        good = ["a", "z", "a0", "abcdefgh", "z9999999", "q1w2e3r4"]
        for name in good:
            self.assertEqual(Valley([name], [], [1]).houses(), [name])
        bad = ["", "A", "aB", "0", "0a", "a b", "a-b", "a_b", "abcdefghi", "\u00e4", "a\u00e4", "a\u0661", "a\n", "a "]
        for name in bad:
            refused(self, BadHouses, {"index": 0}, lambda: Valley([name], [], [1]))

    def test_what_is_changed_later_has_no_effect(self):
        houses, roads, heads = ["a", "b"], [["a", "b"]], [1, 2]
        valley = Valley(houses, roads, heads)
        same = Valley(["a", "b"], [("a", "b")], [1, 2])
        houses[0] = "c"
        roads[0][0] = "c"
        roads.append(1)
        heads.clear()
        self.assertEqual(valley, same)
        for told in [valley.houses(), valley.roads(), valley.heads(), valley.beside("a"), valley.way("a", "b"),
                     valley.side("a", "b")]:
            told.append("c")
        self.assertEqual(valley, same)
        self.assertEqual((valley.beside("a"), valley.way("a", "b"), valley.side("a", "b")), (["b"], ["a", "b"], ["b"]))

    def test_equal_if_all_three_are(self):
        valley = Valley(HOUSES, ROADS, HEADS)
        self.assertTrue(valley == Valley(HOUSES, ROADS, HEADS))
        self.assertFalse(valley != Valley(HOUSES, ROADS, HEADS))
        unlike = [
            Valley(["b", "a", "c"], ROADS, HEADS), Valley(HOUSES, ROADS[::-1], HEADS), Valley(HOUSES, ROADS, [1, 2, 4]),
            Valley(HOUSES, [("b", "a"), ("c", "b")], HEADS), Valley(HOUSES, [("a", "b"), ("a", "c")], HEADS), LONE,
        ]
        for other in unlike:
            self.assertIs(valley == other, False)
            self.assertIs(valley != other, True)

    def test_equal_to_none_of_another_class(self):
        for thing in ANYTHING:
            if thing is not EXAMPLE:
                self.assertIs(EXAMPLE == thing, False)
                self.assertIs(thing == EXAMPLE, False)
        self.assertIs(BadFeasts([]) == EXAMPLE, False)


class Refused(unittest.TestCase):
    def houses(self, index, houses):
        refused(self, BadHouses, {"index": index}, lambda: Valley(houses, "no", "no"))

    def roads(self, index, roads, houses=HOUSES):
        refused(self, BadRoads, {"index": index}, lambda: Valley(houses, roads, "no"))

    def heads(self, index, heads):
        refused(self, BadHeads, {"index": index}, lambda: Valley(HOUSES, ROADS, heads))

    def test_houses(self):
        for thing in ANYTHING + ["abc"]:
            if not isinstance(thing, (list, tuple)) or len(thing) == 0:
                self.houses(0, thing)
        self.houses(0, {"a": 1})
        self.houses(1, ["a", "a"])
        self.houses(2, ["a", "b", "a", "A"])
        self.houses(1, ("a", 1, "a"))
        for thing in ANYTHING:
            if thing not in ("ab", "zz"):
                self.houses(1, ["a", thing, "b"])

    def test_roads(self):
        for thing in ANYTHING + ["ab"]:
            if not isinstance(thing, (list, tuple)):
                self.roads(0, thing)
            self.roads(1, [("a", "b"), thing])
            self.roads(0, [("a", thing), ("a", "b")])
            self.roads(0, [(thing, "a"), ("a", "b")])
        self.roads(0, [("a", "a")])
        self.roads(0, ["ab", ("b", "c")])
        self.roads(0, [("a", "b", "c")])
        self.roads(0, [("a",)])
        self.roads(1, [("a", "b"), ("b", "a")])
        self.roads(1, [("a", "b"), ("a", "b"), ("b", "c")])
        self.roads(2, [("a", "b"), ("b", "c"), ("c", "a")])
        self.roads(2, [("a", "b"), ("b", "c"), None])
        self.roads(0, [("a", "a")], ["a"])
        self.roads(0, [("a", "b")], ["a"])

    def test_too_few_roads(self):
        self.roads(0, [])
        self.roads(0, ())
        self.roads(1, [("a", "b")])
        self.roads(2, [("a", "b"), ("c", "d")], ["a", "b", "c", "d"])
        self.roads(3, [("a", "b"), ("c", "d"), ("a", "c")], ["a", "b", "c", "d", "e"])

    def test_heads(self):
        for thing in ANYTHING + ["abc"]:
            if not isinstance(thing, (list, tuple)):
                self.heads(0, thing)
            if thing is True or not isinstance(thing, int) or thing < 1:
                self.heads(1, [1, thing, 0])
        self.heads(3, [1, 2, 3, 4])
        self.heads(3, [1, 2, 3, None])
        self.heads(2, [1, 2, 0, 4])
        self.heads(0, [])
        self.heads(2, [1, 2])
        self.heads(1, [1, 0])

    def test_in_order(self):
        refused(self, BadHouses, {"index": 0}, lambda: Valley(None, None, None))
        refused(self, BadRoads, {"index": 0}, lambda: Valley(["a"], None, None))
        refused(self, BadHeads, {"index": 0}, lambda: Valley(["a"], [], None))

    def test_long_lists(self):
        names = [f"a{number}" for number in range(20000)]
        roads = list(zip(names, names[1:]))
        self.houses(20000, names + ["a0"])
        self.roads(19998, roads[:-1] + [("a0", "a9999")], names)
        self.roads(19998, roads[:0:-1], names)
        star = [("a0", name) for name in names[1:]]
        self.roads(19999, star + [("a1", "a19999")], names)
        refused(self, BadHeads, {"index": 3}, lambda: Valley(HOUSES, ROADS, [1] * 20000))


class Ways(unittest.TestCase):
    def test_beside_in_the_valleys_order(self):
        self.assertEqual(EXAMPLE.beside("b"), ["a", "c", "d"])
        self.assertEqual(EXAMPLE.beside("d"), ["b"])
        self.assertEqual(LONE.beside("a"), [])
        valley = Valley(["d", "b", "a", "c"], [("a", "b"), ("b", "c"), ("b", "d")], [1] * 4)
        self.assertEqual(valley.beside("b"), ["d", "a", "c"])

    def test_way(self):
        self.assertEqual(EXAMPLE.way("a", "d"), ["a", "b", "d"])
        self.assertEqual(EXAMPLE.way("d", "a"), ["d", "b", "a"])
        self.assertEqual(EXAMPLE.way("b", "b"), ["b"])
        self.assertEqual(LONE.way("a", "a"), ["a"])

    def test_side(self):
        self.assertEqual(EXAMPLE.side("a", "b"), ["b", "c", "d"])
        self.assertEqual(EXAMPLE.side("b", "a"), ["a"])
        self.assertEqual(EXAMPLE.side("c", "b"), ["a", "b", "d"])

    def test_small_ones_through(self):
        for valley in small_valleys():
            houses = valley.houses()
            joined = {frozenset(road) for road in valley.roads()}
            for one in houses:
                self.assertEqual(valley.beside(one), [far for far in houses if {one, far} in joined])
                for other in houses:
                    way = valley.way(one, other)
                    self.assertEqual((way[0], way[-1], len(set(way))), (one, other, len(way)))
                    self.assertTrue(all({here, there} in joined for here, there in zip(way, way[1:])))
                    if {one, other} in joined:
                        side = [far for far in houses if other in valley.way(one, far)]
                        self.assertEqual(valley.side(one, other), side)
                        self.assertEqual(set(valley.side(other, one)) | set(side), set(houses))

    def test_sixty_houses(self):
        names = names_of(60)
        self.assertEqual(row(60).way("h0", "h59"), names)
        self.assertEqual(row(60).side("h30", "h31"), names[31:])
        for valley in big_valleys(heads=[10 ** 15] * 60):
            for one, other in valley.roads():
                both = valley.side(one, other) + valley.side(other, one)
                self.assertEqual(sorted(both), sorted(names))
            self.assertEqual(valley.heads(), [10 ** 15] * 60)

    def test_rules(self):
        keep_to_the_rules(self, EXAMPLE.beside, {"house": "b"}, ["a", "c", "d"])
        keep_to_the_rules(self, EXAMPLE.way, {"one": "a", "other": "c"}, ["a", "b", "c"])
        keep_to_the_rules(self, EXAMPLE.side, {"one": "b", "other": "c"}, ["c"])

    def test_refused(self):
        for thing in ANYTHING:
            refused(self, NoHouse, {"house": thing}, lambda: EXAMPLE.beside(thing))
            for ask in [EXAMPLE.way, EXAMPLE.side]:
                refused(self, NoHouse, {"house": thing}, lambda: ask(thing, None))
                refused(self, NoHouse, {"house": thing}, lambda: ask("a", thing))
                refused(self, NoHouse, {"house": thing}, lambda: ask(thing, thing))
        for one, other in [("a", "c"), ("a", "a"), ("d", "c")]:
            refused(self, NoRoad, {"one": one, "other": other}, lambda: EXAMPLE.side(one, other))
