import unittest

from feasted.errors import BadEvening, BadSome, BadValley
from feasted.sums import calls_of, size, sums_of
from feasted.valleys import Valley
from tests.helpers import (ANYTHING, EVENING, EXAMPLE, LONE, TWO, all_evenings, big_evenings, first_ones, frozen,
                           keep_to_the_rules, plain_parts, refused, refused_in_order, small_valleys)

AB, BC, BD = EXAMPLE.roads()
HEAVY = Valley(EXAMPLE.houses(), EXAMPLE.roads(), [5, 1, 1, 1])


def people(valley, some):
    return sum(valley.heads()[valley.houses().index(house)] for house in some)


def plain_sums(valley, evening):
    held = plain_parts(valley, evening).values()
    return {house: sum(people(valley, part) for part in held if house in part) for house in valley.houses()}


def plain_calls(valley, evening):
    held = plain_parts(valley, evening)
    return {road: sum(people(valley, part) for part in held.values() if set(held[road]) <= set(part)) for road in held}


class Example(unittest.TestCase):
    def test_sums(self):
        keep_to_the_rules(self, sums_of, {"valley": EXAMPLE, "evening": EVENING}, {"a": 7, "b": 9, "c": 9, "d": 4})
        keep_to_the_rules(self, sums_of, {"valley": HEAVY, "evening": EVENING}, {"a": 15, "b": 17, "c": 17, "d": 8})

    def test_calls(self):
        keep_to_the_rules(self, calls_of, {"valley": EXAMPLE, "evening": EVENING}, {AB: 7, BC: 9, BD: 4})

    def test_size(self):
        for some, many in [([], 0), (["a"], 5), (["d", "a"], 6), (list("dcba"), 8)]:
            keep_to_the_rules(self, size, {"valley": HEAVY, "some": some}, many)

    def test_one_and_two_houses(self):
        self.assertEqual((sums_of(LONE, []), calls_of(LONE, []), size(LONE, ["a"])), ({"a": 0}, {}, 7))
        self.assertEqual(repr(sums_of(TWO, [["b", "a"]])), "{'b': 7, 'a': 7}")
        self.assertEqual(calls_of(TWO, [["b", "a"]]), {("a", "b"): 7})


class Refused(unittest.TestCase):
    def test_some(self):
        for thing in ANYTHING + ["abcd"]:
            if not isinstance(thing, (list, tuple)):
                refused(self, BadSome, {"index": 0}, lambda: size(EXAMPLE, thing))
            refused(self, BadSome, {"index": 1}, lambda: size(EXAMPLE, ["d", thing, "d"]))
        refused(self, BadSome, {"index": 2}, lambda: size(EXAMPLE, ("d", "a", "d")))

    def test_in_order(self):
        valley = (["valley"], [7], BadValley, {"thing": 7})
        refused_in_order(self, size, {"valley": EXAMPLE, "some": []}, [valley, (["some"], [7], BadSome, {"index": 0})])
        for call in [sums_of, calls_of]:
            refused_in_order(self, call, {"valley": EXAMPLE, "evening": EVENING},
                             [valley, (["evening"], [()], BadEvening, {"evening": ()})])


class AllEvenings(unittest.TestCase):
    def test_all(self):
        for valley in small_valleys(6):
            for evening in all_evenings(valley):
                sums, calls = plain_sums(valley, evening), plain_calls(valley, evening)
                self.assertEqual(repr(sums_of(valley, evening)), repr(sums))
                self.assertEqual(repr(calls_of(valley, evening)), repr(calls))
                squares = sum(people(valley, part) ** 2 for part in plain_parts(valley, evening).values())
                heads = dict(zip(valley.houses(), valley.heads()))
                self.assertEqual(sum(sums[house] * heads[house] for house in sums), squares)
                for house in sums:
                    self.assertEqual(sums[house], max([0] + [calls[road] for road in calls if house in road]))
                if evening:
                    self.assertEqual(calls[evening[-1]], size(valley, valley.houses()))

    def test_calls_tell_evenings(self):
        for valley in small_valleys(6):
            unlike = first_ones(valley, plain_parts)
            self.assertEqual(len({frozen(calls_of(valley, evening)) for evening in unlike.values()}), len(unlike))

    def test_lesser_calls_of_later_roads(self):
        for valley in small_valleys(5):
            for evening in all_evenings(valley):
                held, calls = plain_parts(valley, evening), calls_of(valley, evening)
                for road in evening:
                    for far in evening:
                        if road != far and set(road) <= set(held[far]):
                            self.assertGreater(evening.index(far), evening.index(road))
                            self.assertLess(calls[far], calls[road])


class Sixty(unittest.TestCase):
    def test_sixty(self):
        for valley, evening in big_evenings(heads=[10 ** 15 - number for number in range(60)]):
            self.assertEqual(sums_of(valley, evening), plain_sums(valley, evening))
            self.assertEqual(calls_of(valley, evening), plain_calls(valley, evening))
            self.assertEqual(size(valley, valley.houses()[::-1]), 60 * 10 ** 15 - 59 * 30)
