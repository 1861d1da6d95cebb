import unittest

from feasted.alikeplaces import ahead_share, mean_place, place_counts, place_span
from feasted.alikes import count_alike
from feasted.errors import BadEvening, BadFar, BadRoad, BadValley
from feasted.roadnumbers import road_numbers
from tests.helpers import (ANYTHING, EVENING, EXAMPLE, TWO, alike_ones, big_evenings, halved_evening, keep_to_the_rules,
                           mean, plain_parts, refused, refused_in_order, row, share, small_valleys)

NAMED_ROW = row(5)
AB, BC, CD, DE = NAMED_ROW.roads()
TOLD = [AB, CD, BC, DE]


class Example(unittest.TestCase):
    def told(self, function, expected, **more):
        keep_to_the_rules(self, function, {"valley": NAMED_ROW, "evening": TOLD, **more}, expected)

    def test_shares(self):
        for road, far, expected in [(AB, CD, (1, 2)), (CD, AB, (1, 2)), (AB, BC, (1, 1)), (BC, AB, (0, 1)),
                                    (BC, BC, (0, 1)), (DE, CD, (0, 1))]:
            for one, other in [(road, far), (road[::-1], far), (road, far[::-1])]:
                self.told(ahead_share, expected, road=one, far=other)

    def test_places(self):
        for road, span, counts, average in [(AB, (0, 1), {0: 1, 1: 1}, (1, 2)), (CD, (0, 1), {0: 1, 1: 1}, (1, 2)),
                                            (BC, (2, 2), {2: 2}, (2, 1)), (DE, (3, 3), {3: 2}, (3, 1))]:
            for either in [road, road[::-1]]:
                self.told(place_span, span, road=either)
                self.told(place_counts, counts, road=either)
                self.told(mean_place, average, road=either)

    def test_one_road(self):
        road = ("a", "b")
        self.assertEqual([place_span(TWO, [road], road), place_counts(TWO, [road], road), mean_place(TWO, [road], road),
                          ahead_share(TWO, [road], road, ("b", "a"))], [(0, 0), {0: 1}, (0, 1), (0, 1)])


class Refused(unittest.TestCase):
    def test_roads(self):
        for thing in ANYTHING + [("a", "c"), ("a", "a"), "ab", ["a"], [["a"], "b"]]:
            refused(self, BadRoad, {"road": thing}, lambda: ahead_share(EXAMPLE, EVENING, thing, thing))
            refused(self, BadFar, {"far": thing}, lambda: ahead_share(EXAMPLE, EVENING, ("a", "b"), thing))
            for call in [place_span, place_counts, mean_place]:
                refused(self, BadRoad, {"road": thing}, lambda: call(EXAMPLE, EVENING, thing))

    def test_in_order(self):
        first = [(["valley"], [7], BadValley, {"thing": 7}), (["evening"], [()], BadEvening, {"evening": ()}),
                 (["road"], ["x"], BadRoad, {"road": "x"})]
        good = {"valley": NAMED_ROW, "evening": TOLD, "road": AB}
        for call in [place_span, place_counts, mean_place]:
            refused_in_order(self, call, good, first)
        refused_in_order(self, ahead_share, {**good, "far": CD}, first + [(["far"], ["y"], BadFar, {"far": "y"})])


class AllEvenings(unittest.TestCase):
    def test_shares(self):
        for valley in small_valleys(6):
            for alike in alike_ones(valley):
                for road in valley.roads():
                    for far in valley.roads():
                        many = sum(evening.index(road) < evening.index(far) for evening in alike)
                        self.assertEqual(ahead_share(valley, alike[-1], road, far), share(many, len(alike)))

    def test_places(self):
        for valley in small_valleys(6):
            for alike in alike_ones(valley):
                numbers = road_numbers(valley, alike[0])
                held = plain_parts(valley, alike[0])
                for road in valley.roads():
                    places = sorted(evening.index(road) for evening in alike)
                    counts = {place: places.count(place) for place in places}
                    self.assertEqual(repr(place_counts(valley, alike[0], road)), repr(counts))
                    self.assertEqual(place_span(valley, alike[-1], road), (places[0], places[-1]))
                    self.assertEqual(list(counts), list(range(places[0], places[-1] + 1)))
                    inside = [far for far in held if far != road and set(far) <= set(held[road])]
                    self.assertEqual((places[0], places[-1]), (len(inside), len(held) - numbers[road]))
                    self.assertEqual(mean_place(valley, alike[0], road), mean(places))


class Sixty(unittest.TestCase):
    def test_places(self):
        for valley, evening in [*big_evenings(), (row(60), halved_evening(row(60)))]:
            many = count_alike(valley, evening)
            for road in evening[::13]:
                counts = place_counts(valley, evening, road)
                self.assertEqual(sum(counts.values()), many)
                self.assertEqual((min(counts), max(counts)), place_span(valley, evening, road))
                self.assertEqual(list(counts), list(range(min(counts), max(counts) + 1)))
                self.assertIn(evening.index(road), counts)
                self.assertEqual(mean_place(valley, evening, road),
                                 share(sum(place * counts[place] for place in counts), many))

    def test_shares_tell_the_mean_place(self):
        """On the average so many roads are opened ahead of one as the shares of all others are together."""
        for valley, evening in [*list(big_evenings())[3::4], (row(60), halved_evening(row(60)))]:
            for road in evening[::29]:
                shares = [ahead_share(valley, evening, far, road) for far in evening]
                bottom = 1
                for _, each in shares:
                    bottom *= each
                top = sum(part * bottom // each for part, each in shares)
                self.assertEqual(share(top, bottom), mean_place(valley, evening, road))
                for far, (top, bottom) in zip(evening, shares):
                    turned = ahead_share(valley, evening, road, far)
                    self.assertEqual(turned, (0, 1) if far == road else (bottom - top, bottom))
