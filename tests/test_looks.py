import itertools
import random
import unittest

from feasted.begun import begun_break, feasts_so_far
from feasted.errors import BadFeasts, BadValley
from feasted.looks import begun_through, can_end_with, looks_fault, still_to_come
from feasted.refusals import BadBegun, BadLooks
from tests.helpers import (ANYTHING, EVENING, EXAMPLE, LONE, TWO, all_begun, all_evenings, big_evenings, frozen,
                           keep_to_the_rules, named, plain_feasts, plain_lots, plain_so_far, refused, refused_in_order,
                           small_valleys)
from tests.test_dayplans import ROW

NOTHING = named([0, 0, 0, 0, 0])
FIRST = named([1, 1, 0, 0, 0])
BOTH = named([1, 1, 0, 1, 1])


class Example(unittest.TestCase):
    def told(self, function, expected, **more):
        keep_to_the_rules(self, function, {"valley": ROW, **more}, expected)

    def test_through(self):
        east = named([0, 0, 0, 1, 1])
        for looks, begun in [([NOTHING], []), ([BOTH], [("a", "b"), ("d", "e")]),
                             ([NOTHING, BOTH], [("a", "b"), ("d", "e")]), ([FIRST, BOTH], [("a", "b"), ("d", "e")]),
                             ([BOTH, BOTH, BOTH], [("a", "b"), ("d", "e")]), ([east, BOTH], [("d", "e"), ("a", "b")]),
                             ([NOTHING, east, east, BOTH], [("d", "e"), ("a", "b")]),
                             ([east, named([2, 2, 1, 1, 1])], [("d", "e"), ("a", "b"), ("b", "c")])]:
            self.told(begun_through, begun, looks=looks)
            self.told(looks_fault, None, looks=looks)

    def test_fault(self):
        for looks, fault in [([named([1, 1, 1, 0, 0])], ("break", 0)), ([BOTH, FIRST], ("back", 1, ("d", "e"))),
                             ([FIRST, named([0, 0, 0, 1, 1])], ("back", 1, ("a", "b"))),
                             ([NOTHING, FIRST, NOTHING], ("back", 2, ("a", "b"))),
                             # ("a", "b") is open by both, but is opened behind ("b", "c") by the latter.
                             ([FIRST, named([1, 2, 2, 0, 0])], ("back", 1, ("a", "b"))),
                             ([BOTH, named([1, 0, 0, 0, 0])], ("break", 1)),
                             ([BOTH, NOTHING, named([1, 0, 0, 0, 0])], ("back", 1, ("a", "b"))),
                             ([named([1, 0, 0, 0, 0]), NOTHING, BOTH, NOTHING], ("break", 0))]:
            self.told(looks_fault, fault, looks=looks)
            self.told(begun_through, None, looks=looks)

    def test_still_to_come(self):
        self.told(still_to_come, {"a": (1, 2), "b": (1, 2), "c": (2, 2), "d": (1, 2), "e": (1, 2)},
                  begun=[("d", "e"), ("a", "b")])
        self.told(still_to_come, {"a": (1, 4), "b": (2, 4), "c": (2, 4), "d": (2, 4), "e": (1, 4)}, begun=[])
        self.told(still_to_come, named([(0, 0)] * 5), begun=ROW.roads()[::-1])
        self.told(still_to_come, {"a": (1, 2), "b": (2, 2), "c": (2, 2), "d": (2, 2), "e": (1, 2)},
                  begun=[("c", "b"), ("c", "d")])

    def test_can_end_with(self):
        feasts = named([2, 3, 3, 1])
        for begun, can in [([], True), ([("b", "c")], True), ([("c", "b"), ("b", "a")], True), (EVENING, True),
                           ([("a", "b")], False), ([("b", "c"), ("b", "d")], False), ([("d", "b")], False)]:
            keep_to_the_rules(self, can_end_with, {"valley": EXAMPLE, "begun": begun, "feasts": feasts}, can)
        for numbers in ([2, 2, 2, 2], [2, 3, 3, 2], [0, 1, 1, 0]):
            keep_to_the_rules(self, can_end_with, {"valley": EXAMPLE, "begun": [], "feasts": named(numbers)}, False)

    def test_one_and_two_houses(self):
        self.assertEqual((begun_through(LONE, [{"a": 0}] * 3), looks_fault(LONE, [{"a": 0}, {"a": 1}])),
                         ([], ("break", 1)))
        self.assertEqual((still_to_come(LONE, []), can_end_with(LONE, [], {"a": 0}), can_end_with(LONE, [], {"a": 1})),
                         ({"a": (0, 0)}, True, False))
        looks = [{"a": 0, "b": 0}, {"b": 1, "a": 1}]
        self.assertEqual((begun_through(TWO, looks), looks_fault(TWO, looks[::-1])), ([("a", "b")],
                                                                                     ("back", 1, ("a", "b"))))
        self.assertEqual(repr(still_to_come(TWO, [])), repr({"b": (1, 1), "a": (1, 1)}))


class Refused(unittest.TestCase):
    def test_looks(self):
        for thing in ANYTHING:
            for function in (begun_through, looks_fault):
                refused(self, BadLooks, {"index": 0}, lambda: function(ROW, thing))
                refused(self, BadLooks, {"index": 1}, lambda: function(ROW, [FIRST, thing, None]))
        for wrong in ({"a": 1}, {**FIRST, "f": 0}, {**FIRST, "a": -1}, {**FIRST, "a": True}, {**FIRST, "a": "1"}):
            refused(self, BadLooks, {"index": 2}, lambda: looks_fault(ROW, (BOTH, FIRST, wrong, wrong)))

    def test_begun_and_feasts(self):
        for thing in [*ANYTHING, [("a", "b"), ("b", "a")]]:
            if thing not in ([], (), [["a", "b"]]):
                refused(self, BadBegun, {"begun": thing}, lambda: still_to_come(EXAMPLE, thing))
                refused(self, BadBegun, {"begun": thing}, lambda: can_end_with(EXAMPLE, thing, None))
            refused(self, BadFeasts, {"feasts": thing}, lambda: can_end_with(EXAMPLE, [], thing))

    def test_in_order(self):
        valley = (["valley"], [7], BadValley, {"thing": 7})
        begun = (["begun"], ["x"], BadBegun, {"begun": "x"})
        for function in (begun_through, looks_fault):
            refused_in_order(self, function, {"valley": ROW, "looks": [FIRST]}, [
                valley, (["looks"], [[FIRST, "x"]], BadLooks, {"index": 1})])
        refused_in_order(self, still_to_come, {"valley": EXAMPLE, "begun": []}, [valley, begun])
        refused_in_order(self, can_end_with, {"valley": EXAMPLE, "begun": [], "feasts": named([0] * 4)}, [
            valley, begun, (["feasts"], ["y"], BadFeasts, {"feasts": "y"})])


class AllBegun(unittest.TestCase):
    def test_looks(self):
        chance = random.Random(9)
        for valley in small_valleys(5):
            every = list(all_begun(valley))
            through = [(begun, [plain_so_far(valley, begun[:many]) for many in range(len(begun) + 1)])
                       for begun in every]
            every_look = list({frozen(seen[-1]): seen[-1] for _, seen in through}.values())
            parts = {frozen(seen[-1]): {road: next(lot for lot in plain_lots(valley, begun[:at + 1]) if road[0] in lot)
                                        for at, road in enumerate(begun)} for begun, seen in through}
            for _ in range(150):
                if chance.randrange(2):
                    # Looks at one evening, some of them, perhaps, not at it.
                    _, seen = chance.choice(through)
                    looks = [look for look in seen if chance.randrange(2)] or seen[-1:]
                    if chance.randrange(2):
                        looks.insert(chance.randrange(len(looks) + 1), chance.choice(every_look))
                else:
                    looks = [chance.choice(every_look) for _ in range(chance.randrange(1, 4))]
                if chance.randrange(4) == 0:
                    at = chance.randrange(len(looks))
                    house = chance.choice(valley.houses())
                    looks = looks[:at] + [{**looks[at], house: chance.randrange(4)}] + looks[at + 1:]
                self.held_against(valley, looks, through, parts)

    def test_all_short_looks(self):
        for valley in small_valleys(3):
            through = [(begun, [plain_so_far(valley, begun[:many]) for many in range(len(begun) + 1)])
                       for begun in all_begun(valley)]
            parts = {frozen(seen[-1]): {road: next(lot for lot in plain_lots(valley, begun[:at + 1]) if road[0] in lot)
                                        for at, road in enumerate(begun)} for begun, seen in through}
            for many in (1, 2, 3):
                for looks in itertools.product([dict(key) for key in parts], repeat=many):
                    self.held_against(valley, list(looks), through, parts)

    def held_against(self, valley, looks, through, parts):
        expected = next((begun for begun, seen in through if came_to(seen, looks)), None)
        self.assertEqual(begun_through(valley, looks), expected)
        fault = plain_fault(valley, looks, parts)
        self.assertEqual(looks_fault(valley, looks), fault)
        self.assertEqual(fault is None, expected is not None)

    def test_to_come(self):
        for valley in small_valleys(5):
            evenings = [(evening, plain_feasts(valley, evening)) for evening in all_evenings(valley)]
            for begun in all_begun(valley):
                so_far = plain_so_far(valley, begun)
                ends = [feasts for evening, feasts in evenings if evening[:len(begun)] == begun]
                told = still_to_come(valley, begun)
                self.assertEqual(list(told), valley.houses())
                for house in valley.houses():
                    numbers = {feasts[house] - so_far[house] for feasts in ends}
                    least, most = told[house]
                    self.assertEqual(numbers, set(range(least, most + 1)))
                for feasts in {frozen(feasts): feasts for _, feasts in evenings}.values():
                    self.assertEqual(can_end_with(valley, begun, feasts), feasts in ends)


def came_to(seen, looks):
    """Whether an evening came to all looks in this order, and ends with the last one."""
    if seen[-1] != looks[-1] or any(look not in seen for look in looks):
        return False
    order = [seen.index(look) for look in looks]
    return order == sorted(order)


def plain_fault(valley, looks, parts):
    for index, look in enumerate(looks):
        if frozen(look) not in parts:
            return "break", index
        if index > 0:
            ahead = parts[frozen(looks[index - 1])]
            now = parts[frozen(look)]
            for road in valley.roads():
                if road in ahead and (road not in now or now[road] != ahead[road]):
                    return "back", index, road
    return None


class Sixty(unittest.TestCase):
    def test_big(self):
        for valley, evening in list(big_evenings())[2::4]:
            looks = [feasts_so_far(valley, evening[:many]) for many in range(60)]
            self.assertEqual(begun_through(valley, looks), evening)
            self.assertIsNone(looks_fault(valley, looks))
            some = begun_through(valley, [looks[20], looks[40]])
            self.assertEqual([feasts_so_far(valley, some[:many]) for many in (20, 40)], [looks[20], looks[40]])
            place = {road: at for at, road in enumerate(valley.roads())}
            back = min([evening[at] for at in (30, 31)], key=lambda road: place[road])
            self.assertEqual(looks_fault(valley, looks[:33] + [looks[30]]), ("back", 33, back))
            looks[50] = {**looks[50], valley.houses()[7]: 300}
            self.assertIsNotNone(begun_break(valley, looks[50]))
            self.assertEqual(looks_fault(valley, looks), ("break", 50))
            shut = evening[30:]
            told = still_to_come(valley, evening[:30])
            for lot in plain_lots(valley, evening[:30]):
                beside = [road for road in shut if road[0] in lot or road[1] in lot]
                self.assertEqual({told[house] for house in lot}, {(len(beside), 29)})
            feasts = plain_feasts(valley, evening)
            self.assertIs(can_end_with(valley, evening[:30], feasts), True)
            self.assertIs(can_end_with(valley, [evening[-1]], feasts), False)
