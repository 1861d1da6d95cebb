import random
import unittest

from feasted.datespans import bar_of, can_be, dates_for, joined_span, perhaps_there, surely_ahead, surely_there
from feasted.dates import evening_of_dates
from feasted.errors import BadEvening, BadSpans, BadValley, NoHouse, NoRoad
from tests.helpers import (ANYTHING, EVENING, EXAMPLE, LONE, TWO, all_evenings, big_evenings, keep_to_the_rules,
                           plain_parts, refused, refused_in_order, small_valleys, some_spans, span_dates)

SPANS = [(1, 2), (2, 4), (1, 9)]
LAST = [("a", "b"), ("b", "c"), ("b", "d")]
NO_SPANS = list(ANYTHING) + [(1,), (1, 2, 3), (2, 1), (0, -1), (True, 2), (0, True), ("1", 2), (1, "2"), (1, None),
                             ((1, 1), 2), (1, [1]), "12", {1: 2, 3: 4}]


class Example(unittest.TestCase):
    def told(self, function, expected, spans=SPANS, **more):
        keep_to_the_rules(self, function, {"valley": EXAMPLE, "spans": spans, **more}, expected)

    def test_surely_ahead(self):
        self.told(surely_ahead, [(("a", "b"), ("b", "c"))])
        self.told(surely_ahead, [], [(1, 2), (1, 2), (1, 2)])
        self.told(surely_ahead, [(("b", "c"), ("a", "b")), (("b", "d"), ("a", "b")), (("b", "d"), ("b", "c"))],
                  [(7, 7), (3, 7), (-5, 3)])

    def test_evening(self):
        self.told(bar_of, (("b", "c"), ("a", "b")), evening=EVENING)
        self.told(can_be, False, evening=EVENING)
        self.told(dates_for, None, evening=EVENING)
        self.told(bar_of, None, evening=LAST)
        self.told(can_be, True, evening=LAST)
        self.told(can_be, True, evening=[("d", "b"), ("b", "a"), ("c", "b")])
        wide = [(7, 7), (3, 7), (-5, 3)]
        self.told(bar_of, (("a", "b"), ("b", "c")), wide, evening=LAST)
        self.told(bar_of, (("a", "b"), ("b", "d")), wide, evening=[("a", "b"), ("b", "d"), ("b", "c")])
        self.told(bar_of, (("b", "c"), ("b", "d")), wide, evening=[("b", "c"), ("b", "d"), ("a", "b")])

    def test_dates(self):
        self.free(SPANS, LAST)
        self.free(SPANS, [("b", "d"), ("a", "b"), ("b", "c")])
        self.free([(0, 1), (0, 1), (0, 1)], EVENING)
        self.free([(5, 5), (4, 5), (5, 6)], EVENING)
        self.free([(-10 ** 15, -10 ** 15 + 1), (-10 ** 15, -10 ** 15), (-3, 10 ** 15)], EVENING)

    def free(self, spans, evening):
        dates = dates_for(EXAMPLE, spans, evening)
        self.told(dates_for, dates, spans, evening=evening)
        self.assertTrue(are_within(dates, spans))
        self.assertEqual(evening_of_dates(EXAMPLE, dates), evening)
        self.assertEqual(dates_for(EXAMPLE, spans, [road[::-1] for road in evening]), dates)

    def test_who_is_there(self):
        self.told(surely_there, ["a", "b", "c"], one="b", other="c")
        self.told(perhaps_there, ["a", "b", "c", "d"], one="b", other="c")
        self.told(surely_there, ["a", "b"], one="b", other="a")
        self.told(perhaps_there, ["a", "b", "d"], one="b", other="a")
        self.told(surely_there, ["b", "d"], one="d", other="b")
        self.told(perhaps_there, ["a", "b", "c", "d"], one="d", other="b")

    def test_joined(self):
        self.told(joined_span, (2, 4), one="a", other="c")
        self.told(joined_span, (1, 9), one="d", other="a")
        self.told(joined_span, (2, 9), one="d", other="c")
        self.told(joined_span, (1, 2), one="a", other="b")
        self.told(joined_span, None, one="c", other="c")

    def test_one_and_two_houses(self):
        self.assertEqual((surely_ahead(LONE, []), can_be(LONE, [], []), dates_for(LONE, [], []), bar_of(LONE, [], [])),
                         ([], True, [], None))
        self.assertIsNone(joined_span(LONE, [], "a", "a"))
        self.assertEqual((surely_ahead(TWO, [(0, 0)]), dates_for(TWO, [[4, 4]], [("b", "a")])), ([], [(4, 1)]))
        self.assertEqual((surely_there(TWO, [(0, 0)], "a", "b"), perhaps_there(TWO, [(0, 0)], "b", "a")),
                         (["b", "a"], ["b", "a"]))
        self.assertEqual(joined_span(TWO, [(-3, 8)], "a", "b"), (-3, 8))


class Refused(unittest.TestCase):
    def test_spans(self):
        calls = [surely_ahead, lambda valley, spans: can_be(valley, spans, None),
                 lambda valley, spans: dates_for(valley, spans, None),
                 lambda valley, spans: bar_of(valley, spans, None),
                 lambda valley, spans: surely_there(valley, spans, None, None),
                 lambda valley, spans: perhaps_there(valley, spans, None, None),
                 lambda valley, spans: joined_span(valley, spans, None, None)]
        wrong = [([(1, 2), (2, 4)], 2), ([], 0), (SPANS + [(1, 2)], 3), (SPANS + [None, 7], 3), ([(1, 1), (1, 1), 7], 1),
                 ([(1, 1), (0, 5), (1, 1)], 2), ([(-2, -2), (-2, -2), (0, 1)], 1), ([(1, 2), None, (2, 1)], 1)]
        wrong += [([(1, 2), thing, (1, 2)], 1) for thing in NO_SPANS]
        wrong += [(thing, 0) for thing in ANYTHING if not isinstance(thing, (list, tuple)) or len(thing) == 0]
        for spans, index in wrong:
            for call in calls:
                refused(self, BadSpans, {"index": index}, lambda: call(EXAMPLE, spans))
        refused(self, BadSpans, {"index": 0}, lambda: surely_ahead(LONE, [(1, 1)]))
        # Alike but for one that is one number: let.
        for spans in ([(1, 2), (1, 2), (1, 2)], [(1, 1), (1, 2), (0, 1)], [(1, 2), (2, 2), (1, 1)]):
            self.assertTrue(any(can_be(EXAMPLE, spans, evening) for evening in all_evenings(EXAMPLE)))

    def test_in_order(self):
        first = [(["valley"], [7], BadValley, {"thing": 7}), (["spans"], [[(1, 2)]], BadSpans, {"index": 1})]
        good = {"valley": EXAMPLE, "spans": SPANS}
        refused_in_order(self, surely_ahead, good, first)
        for function in (can_be, dates_for, bar_of):
            refused_in_order(self, function, {**good, "evening": EVENING},
                             first + [(["evening"], ["x"], BadEvening, {"evening": "x"})])
        houses = [(["one"], ["x"], NoHouse, {"house": "x"}), (["other"], ["y"], NoHouse, {"house": "y"})]
        for function in (surely_there, perhaps_there):
            refused_in_order(self, function, {**good, "one": "a", "other": "b"}, first + houses + [
                (["one", "other"], ["a", "c"], NoRoad, {"one": "a", "other": "c"})])
            refused(self, NoRoad, {"one": "b", "other": "b"}, lambda: function(EXAMPLE, SPANS, "b", "b"))
        refused_in_order(self, joined_span, {**good, "one": "a", "other": "c"}, first + houses)
        for thing in ANYTHING:
            for function in (surely_there, perhaps_there, joined_span):
                refused(self, NoHouse, {"house": thing}, lambda: function(EXAMPLE, SPANS, thing, None))
                refused(self, NoHouse, {"house": thing}, lambda: function(EXAMPLE, SPANS, "a", thing))
        for evening in [*ANYTHING, EVENING[:2], EVENING + EVENING[:1]]:
            refused(self, BadEvening, {"evening": evening}, lambda: dates_for(EXAMPLE, SPANS, evening))


def are_within(dates, spans):
    return len(dates) == len(spans) and all(
        least * bottom <= top <= most * bottom for (top, bottom), (least, most) in zip(dates, spans))


class AllEvenings(unittest.TestCase):
    def test_all(self):
        for valley in small_valleys(5):
            for spans in some_spans(valley, 60):
                self.held_against(valley, spans)

    def held_against(self, valley, spans):
        roads = valley.roads()
        span_of = dict(zip(roads, spans))
        ahead = [(road, later) for road in roads for later in roads
                 if road != later and span_of[road][1] <= span_of[later][0]]
        self.assertEqual(surely_ahead(valley, spans), ahead)
        can = {}
        for evening in all_evenings(valley):
            dates = span_dates(valley, spans, evening)
            self.assertEqual(can_be(valley, spans, evening), dates is not None)
            bars = [(road, later) for at, road in enumerate(evening) for later in evening[at + 1:]
                    if (later, road) in ahead]
            self.assertEqual(bar_of(valley, spans, evening), bars[0] if bars else None)
            told = dates_for(valley, spans, evening)
            self.assertEqual(told is None, bool(bars))
            if dates is not None:
                can[tuple(evening)] = dates
                self.assertTrue(are_within(told, spans))
                self.assertEqual(evening_of_dates(valley, told), evening)
        self.assertTrue(can)
        self.there(valley, spans, [plain_parts(valley, evening) for evening in can])
        self.joined(valley, spans, can)

    def there(self, valley, spans, held):
        for one, other in valley.roads():
            surely = [house for house in valley.houses() if all(house in parts[one, other] for parts in held)]
            perhaps = [house for house in valley.houses() if any(house in parts[one, other] for parts in held)]
            self.assertEqual(surely_there(valley, spans, other, one), surely)
            self.assertEqual(perhaps_there(valley, spans, one, other), perhaps)

    def joined(self, valley, spans, can):
        for one in valley.houses():
            for other in valley.houses():
                way = valley.way(one, other)
                on_way = [road for road in valley.roads() if road[0] in way and road[1] in way]
                first = [max(soon[road] for road in on_way)[0] for soon, _ in can.values()] if on_way else []
                last = [max(late[road] for road in on_way) for _, late in can.values()] if on_way else []
                span = (min(first), max(last)[0]) if on_way else None
                self.assertEqual(joined_span(valley, spans, one, other), span)


class Sixty(unittest.TestCase):
    def test_big(self):
        chance = random.Random(7)
        for valley, evening in big_evenings():
            spans = [(0, 0)] * len(evening)
            place = {road: at for at, road in enumerate(valley.roads())}
            for day, road in enumerate(evening):
                spans[place[road]] = (day - 10 ** 15, day - 10 ** 15 + chance.randrange(0, 4))
            self.assertTrue(can_be(valley, spans, evening))
            dates = dates_for(valley, spans, evening)
            self.assertTrue(are_within(dates, spans))
            self.assertEqual(evening_of_dates(valley, dates), evening)
            held = plain_parts(valley, evening)
            one, other = evening[-1]
            self.assertEqual(len(perhaps_there(valley, spans, one, other)), 60)
            one, other = evening[20]
            self.assertLessEqual(set(surely_there(valley, spans, one, other)), set(held[one, other]))
            self.assertLessEqual(set(held[one, other]), set(perhaps_there(valley, spans, one, other)))
            alike = [(0, 1)] * len(evening)
            self.assertTrue(are_within(dates_for(valley, alike, evening), alike))
            turned = evening[::-1]
            self.assertEqual(bar_of(valley, spans, turned), plain_bar(valley, spans, turned))


def plain_bar(valley, spans, evening):
    span_of = dict(zip(valley.roads(), spans))
    for at, road in enumerate(evening):
        for later in evening[at + 1:]:
            if span_of[later][1] <= span_of[road][0]:
                return road, later
    return None
