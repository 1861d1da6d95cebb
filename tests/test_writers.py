import itertools
import unittest
from math import factorial

from feasted.errors import BadEvening, BadLot, BadValley
from feasted.logs import log_of
from feasted.rowsandstars import count_row
from feasted.valleys import Valley
from feasted.writers import (always_writers, apart_threes, count_unseen, fewest_writers, see_alike, tell_always,
                             tell_evening, unseen)
from tests.helpers import (ANYTHING, EVENING, EXAMPLE, LONE, TWO, all_evenings, alike_ones, big_evenings, big_valleys,
                           keep_to_the_rules, plain_parts, refused, refused_in_order, row, small_valleys, star, tree)

OF_A_LOT = [unseen, count_unseen, tell_evening]


def all_lots(houses):
    for many in range(len(houses) + 1):
        for lot in itertools.combinations(houses, many):
            yield list(lot)


def hang_together(valley, some):
    return sum(set(road) <= set(some) for road in valley.roads()) == len(some) - 1


def threes_of(valley):
    return [three for three in itertools.combinations(valley.houses(), 3) if hang_together(valley, three)]


class Example(unittest.TestCase):
    def told(self, function, expected, **arguments):
        keep_to_the_rules(self, function, {"valley": EXAMPLE, **arguments}, expected)

    def test_of_an_evening(self):
        for lot, groups, many, tells in [
                (["d"], [["a", "b", "c"]], 2, False), (["a"], [["b", "c"]], 1, True), ([], [list("abcd")], 6, False),
                (["b"], [], 1, True), (["d", "a"], [["b", "c"]], 1, True), (["d", "c", "a", "b"], [], 1, True)]:
            self.told(unseen, groups, evening=EVENING, lot=lot)
            self.told(count_unseen, many, evening=EVENING, lot=lot)
            self.told(tell_evening, tells, evening=EVENING, lot=lot)
        self.assertIn(fewest_writers(EXAMPLE, EVENING), [["a"], ["b"], ["c"]])

    def test_see_alike(self):
        other = [("a", "b"), ("b", "c"), ("b", "d")]
        for lot, alike in [(["d"], True), ([], True), (["a"], False), (["d", "b"], False), (["d", "c"], False)]:
            self.told(see_alike, alike, evening=EVENING, other_evening=other, lot=lot)
        self.told(see_alike, True, evening=EVENING, other_evening=EVENING, lot=["c", "a", "b", "d"])

    def test_whatever_the_evening(self):
        for lot, tells in [(["b"], True), (["a"], False), (["a", "c"], True), ([], False), (["d", "b"], True)]:
            self.told(tell_always, tells, lot=lot)
        self.told(always_writers, ["b"])
        self.assertIn(apart_threes(EXAMPLE), [[("a", "b", "c")], [("a", "b", "d")], [("b", "c", "d")]])

    def test_one_and_two_houses(self):
        for valley, evening in [(LONE, []), (TWO, [("a", "b")])]:
            self.assertEqual([count_unseen(valley, evening, []), tell_evening(valley, evening, []),
                              fewest_writers(valley, evening), tell_always(valley, []), always_writers(valley),
                              apart_threes(valley), see_alike(valley, evening, evening, ["a"])],
                             [1, True, [], True, [], [], True])
        self.assertEqual((unseen(LONE, [], []), unseen(TWO, [("a", "b")], []), unseen(TWO, [("a", "b")], ["a"])),
                         ([], [["b", "a"]], []))

    def test_groups_by_their_first_houses(self):
        valley = Valley(list("abcdef"), [("f", "b"), ("b", "d"), ("d", "a"), ("a", "e"), ("e", "c")], [1] * 6)
        evening = [("e", "c"), ("f", "b"), ("d", "a"), ("a", "e"), ("b", "d")]
        keep_to_the_rules(self, unseen, {"valley": valley, "evening": evening, "lot": ["d"]},
                          [["b", "f"], ["c", "e"]])


class Refused(unittest.TestCase):
    def test_lot(self):
        calls = [lambda lot: see_alike(EXAMPLE, EVENING, EVENING, lot), lambda lot: tell_always(EXAMPLE, lot)]
        calls += [lambda lot, call=call: call(EXAMPLE, EVENING, lot) for call in OF_A_LOT]
        for call in calls:
            for thing in ANYTHING + ["abc"]:
                if not isinstance(thing, (list, tuple)):
                    refused(self, BadLot, {"index": 0}, lambda: call(thing))
                refused(self, BadLot, {"index": 2}, lambda: call(["d", "a", thing, 7]))
            for lot, index in [(["a", "a"], 1), (("d", "a", "d", "x"), 2), (["x"], 0), ([["a"]], 0), (["a", "b", "A"], 2)]:
                refused(self, BadLot, {"index": index}, lambda: call(lot))

    def test_in_order(self):
        valley = (["valley"], [7], BadValley, {"thing": 7})
        evening = (["evening"], [()], BadEvening, {"evening": ()})
        lot = (["lot"], [["x"]], BadLot, {"index": 0})
        good = {"valley": EXAMPLE, "evening": EVENING, "lot": []}
        for call in OF_A_LOT:
            refused_in_order(self, call, good, [valley, evening, lot])
        refused_in_order(self, see_alike, {**good, "other_evening": EVENING},
                         [valley, evening, (["other_evening"], [8], BadEvening, {"evening": 8}), lot])
        refused_in_order(self, fewest_writers, {"valley": EXAMPLE, "evening": EVENING}, [valley, evening])
        refused_in_order(self, tell_always, {"valley": EXAMPLE, "lot": []}, [valley, lot])
        for thing in ANYTHING:
            if thing is not EXAMPLE and thing is not LONE:
                refused(self, BadValley, {"thing": thing}, lambda: always_writers(thing))
                refused(self, BadValley, {"thing": thing}, lambda: apart_threes(thing))


class AllEvenings(unittest.TestCase):
    def test_see_alike(self):
        for valley in small_valleys(4):
            evenings = all_evenings(valley)
            for lot in all_lots(valley.houses()):
                logs = [[log_of(valley, evening, house) for house in lot] for evening in evenings]
                for (one, mine), (other, theirs) in itertools.product(zip(evenings, logs), repeat=2):
                    self.assertIs(see_alike(valley, one, other, lot[::-1]), mine == theirs)

    def test_unseen(self):
        for valley in small_valleys(6):
            lots = alike_ones(valley)
            for lot in list(all_lots(valley.houses()))[:: 1 if len(valley.houses()) < 6 else 5]:
                logs = [repr([log_of(valley, alike[0], house) for house in lot]) for alike in lots]
                for alike, mine in zip(lots, logs):
                    self.held_against(valley, alike[-1], lot, logs.count(mine))

    def held_against(self, valley, evening, lot, many):
        held = [set(part) for part in plain_parts(valley, evening).values() if not set(part) & set(lot)]
        groups = [part for part in held if not any(part < other for other in held)]
        told = [[house for house in valley.houses() if house in group] for group in groups]
        told = sorted(told, key=lambda group: valley.houses().index(group[0]))
        self.assertEqual(unseen(valley, evening, lot[::-1]), told)
        self.assertEqual(count_unseen(valley, evening, lot), many)
        self.assertIs(tell_evening(valley, evening, lot), many == 1)
        self.assertEqual(many == 1, all(len(group) < 3 for group in groups))

    def test_fewest_writers(self):
        for valley in small_valleys(6):
            for alike in alike_ones(valley):
                fewest = min(len(lot) for lot in all_lots(valley.houses()) if tell_evening(valley, alike[0], lot))
                writers = fewest_writers(valley, alike[0])
                self.assertEqual(len(writers), fewest)
                self.assertTrue(tell_evening(valley, alike[0], writers))
                self.assertEqual(writers, [house for house in valley.houses() if house in writers])
                wide = [set(part) for part in plain_parts(valley, alike[0]).values() if len(part) > 2]
                self.assertEqual(fewest, sum(not any(other < part for other in wide) for part in wide))

    def test_whatever_the_evening(self):
        for valley in small_valleys(6):
            firsts = [alike[0] for alike in alike_ones(valley)]
            telling = []
            for lot in all_lots(valley.houses()):
                tells = all(tell_evening(valley, evening, lot) for evening in firsts)
                self.assertIs(tell_always(valley, lot[::-1]), tells)
                self.assertEqual(tells, all(set(three) & set(lot) for three in threes_of(valley)))
                if tells:
                    telling.append(lot)
            self.assertIn(always_writers(valley), telling)
            self.assertEqual(len(always_writers(valley)), min(len(lot) for lot in telling))
            self.threes_held_against(valley)

    def threes_held_against(self, valley):
        """As many writers as threes that are apart: so neither can be fewer, nor more."""
        writers, threes = always_writers(valley), apart_threes(valley)
        self.assertEqual(writers, [house for house in valley.houses() if house in writers])
        self.assertTrue(tell_always(valley, writers))
        self.assertEqual(len(threes), len(writers))
        self.assertEqual(len({house for three in threes for house in three}), 3 * len(threes))
        for three in threes:
            self.assertIsInstance(three, tuple)
            self.assertEqual(list(three), [house for house in valley.houses() if house in three])
            self.assertTrue(hang_together(valley, three))

    def test_whatever_the_evening_of_sixty(self):
        for valley in [*big_valleys(), *[tree(many, many) for many in range(7, 30)]]:
            self.threes_held_against(valley)
            writers = always_writers(valley)
            for house in writers:
                self.assertFalse(tell_always(valley, [far for far in writers if far != house]))
        self.assertEqual((len(always_writers(row(60))), len(always_writers(star(60)))), (20, 1))


class Sixty(unittest.TestCase):
    def test_of_an_evening(self):
        for valley, evening in big_evenings():
            writers = fewest_writers(valley, evening)
            self.assertTrue(tell_evening(valley, evening, writers))
            self.assertEqual(count_unseen(valley, evening, writers), 1)
            self.assertTrue(see_alike(valley, evening, evening, valley.houses()))
            for house in writers:
                self.assertFalse(tell_evening(valley, evening, [far for far in writers if far != house]))
            self.assertTrue(tell_evening(valley, evening, always_writers(valley)))

    def test_groups_of_twelve(self):
        valley = row(60)
        lot = [f"h{place}" for place in range(12, 60, 13)]
        evening = valley.roads()
        outer = [road for road in evening if set(road) & set(lot)]
        evening = [road for road in evening if road not in outer] + outer
        self.assertEqual([len(group) for group in unseen(valley, evening, lot)], [12, 12, 12, 12, 8])
        many = count_unseen(valley, evening, lot)
        self.assertEqual(many, count_row(12) ** 4 * count_row(8))
        star_like = star(12)
        names = [f"x{index}" for index in range(48)]
        roads = star_like.roads() + [("h5", "x0")] + list(zip(names, names[1:]))
        both = Valley(star_like.houses() + names, roads, [1] * 60)
        self.assertEqual(count_unseen(both, roads, names), factorial(11))
        self.assertEqual(unseen(both, roads, names[::-1]), [star_like.houses()])
