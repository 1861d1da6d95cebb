import fractions
import unittest

from feasted.bread import bringers, leavings, left_together, loaves
from feasted.errors import BadEvening, BadValley
from feasted.refusals import BadHeaps
from feasted.valleys import Valley
from tests.helpers import (ANYTHING, EVENING, EXAMPLE, LONE, TWO, all_evenings, big_evenings, keep_to_the_rules, named,
                           plain_feasts, plain_lots, plain_parts, refused, refused_in_order, small_valleys)

HEADS = Valley(EXAMPLE.houses(), EXAMPLE.roads(), [4, 1, 2, 8])
HEAPS = named([4, 8, 8, 2])


class Example(unittest.TestCase):
    def told(self, function, expected, valley=HEADS, **more):
        keep_to_the_rules(self, function, {"valley": valley, "evening": EVENING, **more}, expected)

    def test_loaves(self):
        self.told(loaves, 25)
        self.told(loaves, 9, EXAMPLE)
        self.assertEqual(loaves(HEADS, [("d", "b"), ("b", "a"), ("c", "b")]), 9 + 13 + 15)

    def test_bringers(self):
        self.told(bringers, named([1, 3, 2, 0]))
        # As many on both sides of ("b", "c"): who stands first in the valley's order, not in the road.
        self.told(bringers, named([1, 1, 0, 1]), EXAMPLE)
        turned = Valley(list("dcba"), [("a", "b"), ("c", "b"), ("b", "d")], [1] * 4)
        self.told(bringers, {"d": 1, "c": 1, "b": 0, "a": 1}, turned)

    def test_leavings(self):
        self.told(leavings, named([(1, 1)] * 4), heaps=HEAPS)
        self.told(left_together, (4, 1), heaps=HEAPS)
        self.told(leavings, named([(1, 4), (1, 8), (1, 8), (1, 2)]), heaps=named([1] * 4))
        self.told(left_together, (1, 1), heaps=named([1] * 4))
        self.told(leavings, named([(0, 1), (3, 4), (5, 2), (0, 1)]), heaps=named([0, 6, 20, 0]))
        self.told(left_together, (13, 4), heaps=named([0, 6, 20, 0]))
        self.told(left_together, (0, 1), heaps=named([0] * 4))

    def test_one_and_two_houses(self):
        self.assertEqual((loaves(LONE, []), bringers(LONE, []), leavings(LONE, [], {"a": 5}),
                          left_together(LONE, [], {"a": 5})), (0, {"a": 0}, {"a": (5, 1)}, (5, 1)))
        self.assertEqual((loaves(TWO, [("b", "a")]), bringers(TWO, [("b", "a")])), (7, {"b": 1, "a": 0}))
        self.assertEqual(repr(leavings(TWO, [("b", "a")], {"a": 1, "b": 4})), repr({"b": (2, 1), "a": (1, 2)}))


class Refused(unittest.TestCase):
    def test_in_order(self):
        first = [(["valley"], [7], BadValley, {"thing": 7}), (["evening"], ["x"], BadEvening, {"evening": "x"})]
        good = {"valley": EXAMPLE, "evening": EVENING}
        for function in (loaves, bringers):
            refused_in_order(self, function, good, first)
        for function in (leavings, left_together):
            refused_in_order(self, function, {**good, "heaps": HEAPS}, first + [
                (["heaps"], ["y"], BadHeaps, {"heaps": "y"})])

    def test_heaps(self):
        wrong = [named([1] * 3), named([1] * 5), named([1, 1, 1, -1]), named([1, 1, True, 1]), named([1, None, 1, 1]),
                 named([1, (1, 2), 1, 1]), [1] * 4, [("a", 1), ("b", 1), ("c", 1), ("d", 1)], "abcd"]
        for thing in [*wrong, *ANYTHING]:
            for function in (leavings, left_together):
                refused(self, BadHeaps, {"heaps": thing}, lambda: function(EXAMPLE, EVENING, thing))


def plain_bringers(valley, evening):
    people = dict(zip(valley.houses(), valley.heads()))
    counts = {house: 0 for house in valley.houses()}
    for at, road in enumerate(evening):
        sides = [lot for lot in plain_lots(valley, evening[:at]) if set(lot) & set(road)]
        sizes = [sum(people[house] for house in side) for side in sides]
        # Lots come by their first houses.
        for house in sides[0] if sizes[0] <= sizes[1] else sides[1]:
            counts[house] += 1
    return counts


def eaten_up(valley, evening, heaps):
    """What each house has, feast by feast, and that what a part has left is half of what both sides had."""
    left = {house: fractions.Fraction(heaps[house]) for house in heaps}
    for part in [plain_parts(valley, evening)[road] for road in evening]:
        left = {house: left[house] / 2 if house in part else left[house] for house in left}
    return left


class AllEvenings(unittest.TestCase):
    def test_all(self):
        for valley in small_valleys(6):
            several = [valley, Valley(valley.houses(), valley.roads(), [1] * len(valley.houses()))]
            for evening in all_evenings(valley)[::1 if len(valley.houses()) < 6 else 7]:
                for each in several:
                    self.held_against(each, evening)

    def held_against(self, valley, evening):
        people = dict(zip(valley.houses(), valley.heads()))
        held = plain_parts(valley, evening)
        feasts = plain_feasts(valley, evening)
        self.assertEqual(loaves(valley, evening), sum(people[house] for part in held.values() for house in part))
        self.assertEqual(loaves(valley, evening), sum(people[house] * feasts[house] for house in feasts))
        told = bringers(valley, evening)
        self.assertEqual(repr(told), repr(plain_bringers(valley, evening)))
        self.assertTrue(all(2 ** told[house] * people[house] <= sum(people.values()) for house in told))
        self.heaps(valley, evening, people)
        self.assertEqual(left_together(valley, evening, dict.fromkeys(people, 1)), (1, 1))

    def heaps(self, valley, evening, heaps):
        expected = eaten_up(valley, evening, heaps)
        told = leavings(valley, evening, heaps)
        self.assertEqual(repr(told), repr({house: (each.numerator, each.denominator) for house, each in expected.items()}))
        together = fractions.Fraction(*left_together(valley, evening, heaps))
        self.assertEqual(together, sum(expected.values()))
        self.assertTrue(min(heaps.values()) <= together <= max(heaps.values()))


class Sixty(unittest.TestCase):
    def test_big(self):
        heads = [10 ** 15 - 10 ** 13 * (at * at % 97) for at in range(60)]
        for valley, evening in big_evenings(60, heads):
            feasts = plain_feasts(valley, evening)
            people = dict(zip(valley.houses(), heads))
            self.assertEqual(loaves(valley, evening), sum(people[house] * feasts[house] for house in feasts))
            told = bringers(valley, evening)
            self.assertEqual(told, plain_bringers(valley, evening))
            self.assertTrue(all(2 ** told[house] * people[house] <= sum(heads) for house in told))
            left = {house: fractions.Fraction(people[house], 2 ** feasts[house]) for house in people}
            self.assertEqual({house: fractions.Fraction(*each) for house, each in
                              leavings(valley, evening, people).items()}, left)
            self.assertEqual(fractions.Fraction(*left_together(valley, evening, people)), sum(left.values()))
            self.assertEqual(left_together(valley, evening, dict.fromkeys(people, 1)), (1, 1))
