import unittest

from feasted.errors import BadFeasts, BadNumber, BadSpans, BadValley, NoHouse
from feasted.feastspans import evening_for, evening_with, feast_span, feasts_bar
from feasted.datespans import can_be
from tests.helpers import (ANYTHING, EXAMPLE, LONE, TWO, all_books, all_evenings, big_valleys,
                           keep_to_the_rules, named, plain_feasts, plain_parts, refused, refused_in_order, row, shuffled,
                           small_valleys, some_spans, span_dates)

SPANS = [(1, 2), (2, 4), (1, 9)]
FEASTS = named([2, 3, 3, 1])


class Example(unittest.TestCase):
    def told(self, function, expected, spans=SPANS, **more):
        keep_to_the_rules(self, function, {"valley": EXAMPLE, "spans": spans, **more}, expected)

    def test_span(self):
        for house, span in [("a", (2, 3)), ("b", (3, 3)), ("c", (1, 2)), ("d", (1, 3))]:
            self.told(feast_span, span, house=house)
        for house, span in [("a", (1, 1)), ("b", (3, 3)), ("c", (2, 2)), ("d", (3, 3))]:
            self.told(feast_span, span, [(7, 7), (3, 7), (-5, 3)], house=house)

    def test_with(self):
        for house, number, there in [("a", 1, False), ("a", 2, True), ("a", 3, True), ("a", 4, False), ("d", 0, False),
                                     ("d", 1, True), ("d", 2, True), ("d", 3, True), ("b", 3, True), ("b", 2, False)]:
            evening = evening_with(EXAMPLE, SPANS, house, number)
            self.assertEqual(evening is not None, there)
            self.told(evening_with, evening, house=house, number=number)
            if there:
                self.assertTrue(can_be(EXAMPLE, SPANS, evening))
                self.assertEqual(plain_feasts(EXAMPLE, evening)[house], number)

    def test_all_feasts(self):
        self.told(feasts_bar, ("dates", ("b", "c"), ("a", "b")), feasts=FEASTS)
        self.told(evening_for, None, feasts=FEASTS)
        last = named([3, 3, 2, 1])
        self.told(evening_for, [("a", "b"), ("b", "c"), ("b", "d")], feasts=last)
        self.told(feasts_bar, None, feasts=last)
        self.told(feasts_bar, ("part", ["a", "b", "c", "d"]), feasts=named([2, 2, 2, 2]))
        self.told(evening_for, None, feasts=named([2, 2, 2, 2]))
        self.told(feasts_bar, ("sum", (7, 8)), feasts=named([2, 3, 2, 2]))
        # Both ("a", "b") and ("b", "d") stand in the way: the former has the lesser place.
        self.told(feasts_bar, ("dates", ("b", "c"), ("a", "b")), [(0, 1), (9, 9), (1, 2)], feasts=FEASTS)
        self.told(feasts_bar, ("dates", ("a", "b"), ("b", "d")), [(8, 9), (1, 4), (0, 7)], feasts=FEASTS)

    def test_one_and_two_houses(self):
        self.assertEqual((feast_span(LONE, [], "a"), evening_with(LONE, [], "a", 0), evening_with(LONE, [], "a", 1)),
                         ((0, 0), [], None))
        self.assertEqual((evening_for(LONE, [], {"a": 0}), feasts_bar(LONE, [], {"a": 0})), ([], None))
        self.assertEqual((evening_for(LONE, [], {"a": 1}), feasts_bar(LONE, [], {"a": 1})), (None, ("sum", (1, 2))))
        self.assertEqual((feast_span(TWO, [(5, 5)], "a"), evening_with(TWO, [(5, 5)], "b", 1)), ((1, 1), [("a", "b")]))
        self.assertEqual(evening_for(TWO, [(0, 1)], {"a": 1, "b": 1}), [("a", "b")])


class Refused(unittest.TestCase):
    def test_in_order(self):
        good = {"valley": EXAMPLE, "spans": SPANS}
        first = [(["valley"], [7], BadValley, {"thing": 7}), (["spans"], [[(1, 2)]], BadSpans, {"index": 1})]
        house = (["house"], ["x"], NoHouse, {"house": "x"})
        feasts = (["feasts"], [{}], BadFeasts, {"feasts": {}})
        refused_in_order(self, feast_span, {**good, "house": "a"}, first + [house])
        refused_in_order(self, evening_with, {**good, "house": "a", "number": 2},
                         first + [house, (["number"], [-1], BadNumber, {"number": -1})])
        wrong = {"a": 1}
        feasts = (["feasts"], [wrong], BadFeasts, {"feasts": wrong})
        for function in (evening_for, feasts_bar):
            refused_in_order(self, function, {**good, "feasts": FEASTS}, first + [feasts])

    def test_each(self):
        for thing in ANYTHING:
            refused(self, NoHouse, {"house": thing}, lambda: feast_span(EXAMPLE, SPANS, thing))
            refused(self, NoHouse, {"house": thing}, lambda: evening_with(EXAMPLE, SPANS, thing, None))
            refused(self, BadFeasts, {"feasts": thing}, lambda: evening_for(EXAMPLE, SPANS, thing))
            refused(self, BadFeasts, {"feasts": thing}, lambda: feasts_bar(EXAMPLE, SPANS, thing))
            if not isinstance(thing, int) or isinstance(thing, bool) or thing < 0:
                refused(self, BadNumber, {"number": thing}, lambda: evening_with(EXAMPLE, SPANS, "a", thing))
        self.assertIsNone(evening_with(EXAMPLE, SPANS, "a", 10 ** 30))
        for spans, index in [([(1, 1), (1, 1), 7], 1), ([(2, 1)] * 3, 0), ([(1, 2)] * 4, 3), (None, 0)]:
            for call in (lambda: feast_span(EXAMPLE, spans, None), lambda: evening_with(EXAMPLE, spans, None, None),
                         lambda: evening_for(EXAMPLE, spans, None), lambda: feasts_bar(EXAMPLE, spans, None)):
                refused(self, BadSpans, {"index": index}, call)


class AllEvenings(unittest.TestCase):
    def test_all(self):
        for valley in small_valleys(5):
            evenings = [(evening, plain_feasts(valley, evening)) for evening in all_evenings(valley)]
            for spans in some_spans(valley, 60, 11):
                can = [(evening, feasts) for evening, feasts in evenings if span_dates(valley, spans, evening)]
                self.of_one(valley, spans, can)
                self.of_all(valley, spans, can, evenings)

    def test_six(self):
        for valley in list(small_valleys(6))[-2:]:
            evenings = [(evening, plain_feasts(valley, evening)) for evening in all_evenings(valley)]
            for spans in some_spans(valley, 60, 5):
                can = [(evening, feasts) for evening, feasts in evenings if span_dates(valley, spans, evening)]
                self.of_one(valley, spans, can)

    def of_one(self, valley, spans, can):
        for house in valley.houses():
            numbers = {feasts[house] for _, feasts in can}
            self.assertEqual(feast_span(valley, spans, house), (min(numbers), max(numbers)))
            for number in range(len(spans) + 2):
                told = evening_with(valley, spans, house, number)
                self.assertEqual(told is not None, number in numbers)
                if told is not None:
                    self.assertIn((told, number), [(evening, feasts[house]) for evening, feasts in can])

    def of_all(self, valley, spans, can, evenings):
        for feasts in {tuple(feasts.items()): feasts for _, feasts in evenings}.values():
            told = evening_for(valley, spans, feasts)
            self.assertEqual(told is not None, feasts in [feasts for _, feasts in can])
            self.assertEqual(feasts_bar(valley, spans, feasts), self.plain_bar(valley, spans, feasts, evenings))
            if told is not None:
                self.assertIn((told, feasts), can)

    def plain_bar(self, valley, spans, feasts, evenings):
        held = plain_parts(valley, [evening for evening, each in evenings if each == feasts][0])
        span_of = dict(zip(valley.roads(), spans))
        for road in valley.roads():
            for later in valley.roads():
                if road != later and set(road) <= set(held[later]) and span_of[later][1] <= span_of[road][0]:
                    return "dates", road, later
        return None

    def test_feasts_of_no_evening(self):
        for valley in small_valleys(4):
            spans = [(0, 9)] * len(valley.roads())
            known = [plain_feasts(valley, evening) for evening in all_evenings(valley)]
            for feasts in all_books(valley.houses(), range(4)):
                self.assertEqual(evening_for(valley, spans, feasts) is not None, feasts in known)
                self.assertEqual(feasts_bar(valley, spans, feasts) is None, feasts in known)


class Sixty(unittest.TestCase):
    def test_big(self):
        for valley in big_valleys():
            for seed, wide in enumerate([1, 9, 200]):
                spans = [(0, 0)] * 59
                place = {road: at for at, road in enumerate(valley.roads())}
                evening = shuffled(valley, seed)
                for day, road in enumerate(evening):
                    spans[place[road]] = (day, day + wide * (day % 3))
                told = evening_for(valley, spans, plain_feasts(valley, evening))
                self.assertTrue(can_be(valley, spans, told))
                self.assertEqual(plain_feasts(valley, told), plain_feasts(valley, evening))
                self.assertIsNone(feasts_bar(valley, spans, plain_feasts(valley, evening)))
                for house in valley.houses()[::59]:
                    least, most = feast_span(valley, spans, house)
                    self.assertTrue(least <= plain_feasts(valley, evening)[house] <= most)
                    for number in {least, (least + most) // 2, most}:
                        told = evening_with(valley, spans, house, number)
                        self.assertTrue(can_be(valley, spans, told))
                        self.assertEqual(plain_feasts(valley, told)[house], number)
                self.assertIsNone(evening_with(valley, spans, house, most + 1))

    def test_free(self):
        valley = row(60)
        spans = [(0, 10 ** 15)] * 59
        self.assertEqual(feast_span(valley, spans, "h0"), (1, 59))
        self.assertEqual(feast_span(valley, spans, "h30"), (2, 59))
        rising = [(day - 10 ** 15, day - 10 ** 15) for day in range(59)]
        self.assertEqual(feast_span(valley, rising, "h0"), (59, 59))
        self.assertEqual(feast_span(valley, rising, "h59"), (1, 1))
