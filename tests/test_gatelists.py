import itertools
import unittest

from feasted.errors import BadEvening, BadMany, BadNames, BadValley, NoHouse
from feasted.evenings import first_alike, parts_behind
from feasted.gatelists import evening_of_list, gate_list, hands, list_break, lists_behind, twin
from tests.helpers import (ANYTHING, EVENING, EXAMPLE, LONE, TWO, all_evenings, big_evenings, first_ones, frozen,
                           keep_to_the_rules, plain_parts, refused, refused_in_order, row, small_valleys)
from feasted.valleys import Valley

ROW = Valley(list("abcd"), [("a", "b"), ("b", "c"), ("c", "d")], [1] * 4)
NAMES = ["c", "b", "d"]


def plain_lists(valley, evening, gate, many):
    """Lists behind the first so many roads, and to whom each name was handed on."""
    lists = {house: [] for house in valley.houses()}
    told = {house: [] for house in valley.houses()}
    far_off = {house: len(valley.way(house, gate)) for house in valley.houses()}
    for number in range(many):
        lots = [[house] for house in valley.houses()] if number == 0 else parts_behind(valley, evening, number)
        joined = [min(lot, key=lambda house: far_off[house]) for lot in lots if set(lot) & set(evening[number])]
        near, far = sorted(joined, key=lambda house: far_off[house])
        moved = lists[far] + [far]
        lists[far] = None
        lists[near] = lists[near] + moved
        for house in moved:
            told[house].append(near)
    return {house: lists[house] for house in lists if lists[house] is not None}, told


def plain_break(valley, gate, names):
    """[9.2], word by word."""

    def through(lot, root, row):
        if not row:
            return None
        house = row[-1]
        beyond = [far for far in lot if house in valley.way(root, far)]
        if set(row[len(row) - len(beyond):]) != set(beyond):
            return house, beyond
        rest = [far for far in lot if far not in beyond]
        ahead = through(rest, root, row[:len(row) - len(beyond)])
        return ahead or through(beyond, house, row[len(row) - len(beyond):-1])

    return through(valley.houses(), gate, list(names))


class Example(unittest.TestCase):
    def test_lists(self):
        for gate, names in [("a", NAMES), ("d", ["c", "a", "b"]), ("b", ["c", "a", "d"]), ("c", ["b", "a", "d"])]:
            both = {"valley": EXAMPLE, "evening": EVENING, "gate": gate}
            keep_to_the_rules(self, gate_list, both, names)
            keep_to_the_rules(self, evening_of_list, {"valley": EXAMPLE, "gate": gate, "names": names}, EVENING)
            keep_to_the_rules(self, list_break, {"valley": EXAMPLE, "gate": gate, "names": names}, None)
            keep_to_the_rules(self, twin, {"valley": EXAMPLE, "gate": "a", "names": NAMES, "other": gate}, names)

    def test_behind(self):
        for many, lists in enumerate([{"a": [], "b": [], "c": [], "d": []}, {"a": [], "b": ["c"], "d": []},
                                      {"a": ["c", "b"], "d": []}, {"a": ["c", "b", "d"]}]):
            arguments = {"valley": EXAMPLE, "evening": EVENING, "gate": "a", "many": many}
            keep_to_the_rules(self, lists_behind, arguments, lists)

    def test_hands(self):
        for house, through in [("a", []), ("b", ["a"]), ("c", ["b", "a"]), ("d", ["a"])]:
            arguments = {"valley": EXAMPLE, "evening": EVENING, "gate": "a", "house": house}
            keep_to_the_rules(self, hands, arguments, through)

    def test_breaks(self):
        can_be = []
        for names in itertools.permutations("abc"):
            if list_break(ROW, "d", list(names)) is None:
                can_be.append("".join(names))
        self.assertEqual(can_be, ["abc", "bac", "bca", "cab", "cba"])
        arguments = {"valley": ROW, "gate": "d", "names": ["a", "c", "b"]}
        keep_to_the_rules(self, list_break, arguments, ("b", ["a", "b"]))
        keep_to_the_rules(self, evening_of_list, arguments, None)
        keep_to_the_rules(self, twin, {**arguments, "other": "a"}, None)

    def test_one_and_two_houses(self):
        self.assertEqual((gate_list(LONE, [], "a"), lists_behind(LONE, [], "a", 0)), ([], {"a": []}))
        self.assertEqual((hands(LONE, [], "a", "a"), evening_of_list(LONE, "a", [])), ([], []))
        self.assertEqual((list_break(LONE, "a", ()), twin(LONE, "a", [], "a")), (None, []))
        self.assertEqual((gate_list(TWO, [("b", "a")], "a"), twin(TWO, "a", ["b"], "b")), (["b"], ["a"]))
        self.assertEqual(repr(lists_behind(TWO, [("a", "b")], "a", 0)), "{'b': [], 'a': []}")


class Refused(unittest.TestCase):
    def test_names(self):
        for call in [evening_of_list, list_break, lambda *three: twin(*three, None)]:
            for thing in ANYTHING + ["abc"]:
                if not isinstance(thing, (list, tuple)):
                    refused(self, BadNames, {"index": 0}, lambda: call(EXAMPLE, "a", thing))
                refused(self, BadNames, {"index": 1}, lambda: call(EXAMPLE, "a", ["d", thing, "d"]))
            for index, names in [(0, []), (1, ["b"]), (2, ("d", "b")), (0, ["a", "b", "c"]), (2, ["b", "c", "b"]),
                                 (3, ["b", "c", "d", "b"]), (3, ["b", "c", "d", "a"]), (1, ["b", "a"])]:
                refused(self, BadNames, {"index": index}, lambda: call(EXAMPLE, "a", names))
        refused(self, BadNames, {"index": 0}, lambda: list_break(LONE, "a", ["a"]))

    def test_houses(self):
        for thing in ANYTHING:
            refused(self, NoHouse, {"house": thing}, lambda: gate_list(EXAMPLE, EVENING, thing))
            refused(self, NoHouse, {"house": thing}, lambda: lists_behind(EXAMPLE, EVENING, thing, None))
            refused(self, NoHouse, {"house": thing}, lambda: hands(EXAMPLE, EVENING, thing, None))
            refused(self, NoHouse, {"house": thing}, lambda: hands(EXAMPLE, EVENING, "a", thing))
            refused(self, NoHouse, {"house": thing}, lambda: evening_of_list(EXAMPLE, thing, None))
            refused(self, NoHouse, {"house": thing}, lambda: list_break(EXAMPLE, thing, None))
            refused(self, NoHouse, {"house": thing}, lambda: twin(EXAMPLE, thing, None, None))
            refused(self, NoHouse, {"house": thing}, lambda: twin(EXAMPLE, "a", NAMES, thing))
            refused(self, NoHouse, {"house": thing}, lambda: twin(ROW, "d", ["a", "c", "b"], thing))
            if thing is True or thing is False or thing not in (0, 1):
                refused(self, BadMany, {"many": thing}, lambda: lists_behind(EXAMPLE, EVENING, "a", thing))

    def test_in_order(self):
        valley = (["valley"], [7], BadValley, {"thing": 7})
        evening = (["evening"], [()], BadEvening, {"evening": ()})
        gate = (["gate"], ["x"], NoHouse, {"house": "x"})
        names = (["names"], [["a"]], BadNames, {"index": 0})
        good = {"valley": EXAMPLE, "evening": EVENING, "gate": "a"}
        back = {"valley": EXAMPLE, "gate": "a", "names": NAMES}
        refused_in_order(self, gate_list, good, [valley, evening, gate])
        refused_in_order(self, lists_behind, {**good, "many": 3},
                         [valley, evening, gate, (["many"], [4], BadMany, {"many": 4})])
        refused_in_order(self, hands, {**good, "house": "a"},
                         [valley, evening, gate, (["house"], ["y"], NoHouse, {"house": "y"})])
        refused_in_order(self, evening_of_list, back, [valley, gate, names])
        refused_in_order(self, list_break, back, [valley, gate, names])
        refused_in_order(self, twin, {**back, "other": "b"},
                         [valley, gate, names, (["other"], ["y"], NoHouse, {"house": "y"})])


class AllEvenings(unittest.TestCase):
    def test_lists(self):
        for valley in small_valleys(5):
            for evening in all_evenings(valley):
                for gate in valley.houses():
                    for many in range(len(evening) + 1):
                        lists, told = plain_lists(valley, evening, gate, many)
                        self.assertEqual(repr(lists_behind(valley, evening, gate, many)), repr(lists))
                    self.assertEqual(gate_list(valley, evening, gate), lists[gate])
                    for house in valley.houses():
                        self.assertEqual(hands(valley, evening, gate, house), told[house])

    def test_back(self):
        for valley in small_valleys(5):
            unlike = first_ones(valley, plain_parts)
            for gate in valley.houses():
                first = first_ones(valley, lambda valley, evening: gate_list(valley, evening, gate))
                self.assertEqual(sorted(first.values()), sorted(unlike.values()))
                for names in itertools.permutations([house for house in valley.houses() if house != gate]):
                    evening = first.get(frozen(names))
                    broken = list_break(valley, gate, list(names))
                    self.assertEqual(evening_of_list(valley, gate, list(names)), evening)
                    self.assertEqual(broken, plain_break(valley, gate, names))
                    self.assertNotEqual(evening is None, broken is None)

    def test_twins(self):
        for valley in small_valleys(5):
            for evening in first_ones(valley, plain_parts).values():
                for gate in valley.houses():
                    for other in valley.houses():
                        mine, theirs = gate_list(valley, evening, gate), gate_list(valley, evening, other)
                        self.assertEqual(twin(valley, gate, mine, other), theirs)
                        self.assertEqual(twin(valley, other, theirs, gate), mine)


class Sixty(unittest.TestCase):
    def test_sixty(self):
        for valley, evening in big_evenings():
            houses = valley.houses()
            for gate in [houses[0], houses[33], houses[59]]:
                names = gate_list(valley, evening, gate)
                self.assertEqual(sorted(names + [gate]), sorted(houses))
                self.assertEqual(evening_of_list(valley, gate, names), first_alike(valley, evening))
                self.assertIsNone(list_break(valley, gate, names))
                self.assertEqual(twin(valley, gate, names, houses[5]), gate_list(valley, evening, houses[5]))
                self.assertEqual(lists_behind(valley, evening, gate, 59), {gate: names})
                self.assertEqual(hands(valley, evening, gate, names[0])[-1], gate)
                turned = names[1:] + names[:1]
                self.assertNotEqual(list_break(valley, gate, turned) is None,
                                    evening_of_list(valley, gate, turned) is None)

    def test_a_long_way(self):
        valley = row(60)
        self.assertEqual(hands(valley, valley.roads()[::-1], "h0", "h59"), [f"h{at}" for at in range(58, -1, -1)])
        self.assertEqual(hands(valley, valley.roads(), "h0", "h59"), ["h0"])
