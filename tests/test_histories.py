import unittest

from feasted.errors import BadEvening, BadValley, NoHouse, NoRoad
from feasted.histories import history
from feasted.roadnumbers import side_digits
from tests.helpers import (ANYTHING, EVENING, EXAMPLE, TWO, all_evenings, big_evenings, keep_to_the_rules,
                           plain_feasts, plain_numbers, plain_parts, refused, refused_in_order, small_valleys)


class Example(unittest.TestCase):
    def test_history(self):
        told = [(("b", "d"), "b"), (("a", "b"), "b")]
        for one, other in [("b", "c"), ("c", "b")]:
            keep_to_the_rules(self, history, {"valley": EXAMPLE, "evening": EVENING, "one": one, "other": other}, told)
        self.assertEqual(history(EXAMPLE, EVENING, "a", "b"), [(("b", "d"), "b")])
        self.assertEqual(history(EXAMPLE, [["d", "b"], ["b", "c"], ["b", "a"]], "d", "b"),
                         [(("a", "b"), "b"), (("b", "c"), "b")])
        self.assertEqual(history(EXAMPLE, EVENING, "d", "b"), [])
        self.assertEqual(history(TWO, [("a", "b")], "a", "b"), [])


class Refused(unittest.TestCase):
    def test_in_order(self):
        rows = [(["valley"], [7], BadValley, {"thing": 7}), (["evening"], [8], BadEvening, {"evening": 8}),
                (["one"], ["x"], NoHouse, {"house": "x"}), (["other"], ["y"], NoHouse, {"house": "y"})]
        refused_in_order(self, history, {"valley": EXAMPLE, "evening": EVENING, "one": "a", "other": "b"}, rows)
        refused(self, NoRoad, {"one": "c", "other": "d"}, lambda: history(EXAMPLE, EVENING, "c", "d"))
        for thing in ANYTHING:
            refused(self, NoHouse, {"house": thing}, lambda: history(EXAMPLE, EVENING, thing, thing))
            refused(self, NoHouse, {"house": thing}, lambda: history(EXAMPLE, EVENING, "a", thing))


class AllEvenings(unittest.TestCase):
    def test_all(self):
        for valley in small_valleys(6):
            for evening in all_evenings(valley)[::3]:
                held = plain_parts(valley, evening)
                for road in valley.roads():
                    later = [far for far in evening[::-1] if set(held[road]) < set(held[far])]
                    for one, other in [road, road[::-1]]:
                        told = [(far, other if set(far) <= set(valley.side(one, other)) else one) for far in later]
                        self.assertEqual(history(valley, evening, one, other), told)

    def test_facts(self):
        for valley in small_valleys(5):
            for evening in all_evenings(valley):
                feasts, numbers = plain_feasts(valley, evening), plain_numbers(valley, evening)
                for one, other in valley.roads():
                    told = history(valley, evening, one, other)
                    self.assertEqual(len(told), numbers[(one, other)] - 1)
                    mine = [1 if house == one else 0 for _, house in told] + [1]
                    theirs = [1 if house == other else 0 for _, house in told] + [1]
                    self.assertEqual(side_digits(valley, feasts, other, one), mine)
                    self.assertEqual(side_digits(valley, feasts, one, other), theirs)


class Sixty(unittest.TestCase):
    def test_sixty(self):
        for valley, evening in big_evenings():
            held, numbers = plain_parts(valley, evening), plain_numbers(valley, evening)
            for one, other in evening[::15]:
                told = history(valley, evening, one, other)
                self.assertEqual([road for road, _ in told],
                                 [far for far in evening[::-1] if set(held[(one, other)]) < set(held[far])])
                self.assertEqual(len(told), numbers[(one, other)] - 1)
