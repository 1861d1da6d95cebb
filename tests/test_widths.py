import unittest
from math import factorial, prod

from feasted.errors import BadEvening, BadFeasts, BadValley, BadWidths
from feasted.evenings import feasts_of, first_alike
from feasted.valleys import Valley
from feasted.widths import evening_of_widths, feasts_by_widths, widths_break, widths_by_feasts, widths_of
from tests.helpers import (ANYTHING, EVENING, EXAMPLE, LONE, TWO, all_books, all_evenings, big_evenings, big_valleys,
                           first_ones, frozen, keep_to_the_rules, named, nearly, plain_feasts, plain_parts, refused,
                           refused_in_order, small_valleys)
from tests.test_sums import people

GROWN = Valley(EXAMPLE.houses(), EXAMPLE.roads(), [1, 2, 3, 4])
AB, BC, BD = GROWN.roads()
WIDTHS = {AB: 6, BC: 5, BD: 10}
BACK = [evening_of_widths, widths_break, feasts_by_widths]


def plain_widths(valley, evening):
    return {road: people(valley, part) for road, part in plain_parts(valley, evening).items()}


def plain_break(valley, widths, lacking=None):
    """[8.2], [8.4], word by word."""

    def through(part):
        if len(part) < 2:
            return None
        inside = [road for road in valley.roads() if road[0] in part and road[1] in part]
        found = [road for road in inside if road != lacking and widths[road] == people(valley, part)]
        last = [lacking] if not found and lacking in inside else found
        if len(last) != 1:
            return part, found
        beyond = valley.side(*last[0])
        near = through([house for house in part if house not in beyond])
        return near or through([house for house in part if house in beyond])

    return through(valley.houses())


class Example(unittest.TestCase):
    def test_widths(self):
        keep_to_the_rules(self, widths_of, {"valley": GROWN, "evening": EVENING}, WIDTHS)
        keep_to_the_rules(self, evening_of_widths, {"valley": GROWN, "widths": WIDTHS}, EVENING)
        keep_to_the_rules(self, widths_break, {"valley": GROWN, "widths": WIDTHS}, None)
        keep_to_the_rules(self, feasts_by_widths, {"valley": GROWN, "widths": WIDTHS}, named([2, 3, 3, 1]))
        keep_to_the_rules(self, widths_by_feasts, {"valley": GROWN, "feasts": named([2, 3, 3, 1])}, WIDTHS)

    def test_breaks(self):
        for widths, broken in [([5, 5, 10], (["a", "b", "c"], [])), ([10, 5, 10], (list("abcd"), [AB, BD])),
                               ([6, 6, 10], (["a", "b", "c"], [AB, BC])), ([10, 10, 10], (list("abcd"), [AB, BC, BD])),
                               ([1, 1, 1], (list("abcd"), [])), ([6, 10 ** 18, 10], (["b", "c"], [])),
                               ([10, 9, 10 ** 18], (["b", "d"], []))]:
            arguments = {"valley": GROWN, "widths": dict(zip(GROWN.roads(), widths))}
            keep_to_the_rules(self, widths_break, arguments, broken)
            keep_to_the_rules(self, evening_of_widths, arguments, None)
            keep_to_the_rules(self, feasts_by_widths, arguments, None)
        keep_to_the_rules(self, widths_by_feasts, {"valley": GROWN, "feasts": named([2, 2, 2, 2])}, None)

    def test_one_and_two_houses(self):
        self.assertEqual([widths_of(LONE, [])] + [call(LONE, {}) for call in BACK], [{}, [], None, {"a": 0}])
        self.assertEqual((widths_by_feasts(LONE, {"a": 0}), widths_by_feasts(LONE, {"a": 1})), ({}, None))
        self.assertEqual(widths_of(TWO, [("b", "a")]), {("a", "b"): 7})
        self.assertEqual(repr([call(TWO, {("a", "b"): 7}) for call in BACK]), "[[('a', 'b')], None, {'b': 1, 'a': 1}]")
        self.assertEqual(widths_break(TWO, {("a", "b"): 6}), (["b", "a"], []))


class Refused(unittest.TestCase):
    def test_widths(self):
        wrong = [{AB: 6, BC: 5}, {**WIDTHS, ("d", "b"): 10}, {AB: 6, BC: 5, ("d", "b"): 10}, {**WIDTHS, AB: 0},
                 {**WIDTHS, AB: True}, {**WIDTHS, AB: "6"}, {**WIDTHS, AB: [6]}, {AB: 6, BC: 5, "bd": 10}, list(WIDTHS)]
        for widths in wrong + ANYTHING:
            for call in BACK:
                refused(self, BadWidths, {"widths": widths}, lambda: call(GROWN, widths))

    def test_in_order(self):
        valley = (["valley"], [7], BadValley, {"thing": 7})
        refused_in_order(self, widths_of, {"valley": GROWN, "evening": EVENING},
                         [valley, (["evening"], [()], BadEvening, {"evening": ()})])
        for call in BACK:
            refused_in_order(self, call, {"valley": GROWN, "widths": WIDTHS},
                             [valley, (["widths"], [()], BadWidths, {"widths": ()})])
        refused_in_order(self, widths_by_feasts, {"valley": GROWN, "feasts": named([2, 3, 3, 1])},
                         [valley, (["feasts"], [()], BadFeasts, {"feasts": ()})])


class AllEvenings(unittest.TestCase):
    def test_all(self):
        for valley in small_valleys(6):
            for evening in all_evenings(valley):
                self.assertEqual(repr(widths_of(valley, evening)), repr(plain_widths(valley, evening)))

    def test_facts(self):
        for valley in small_valleys(5):
            for evening in all_evenings(valley):
                widths, held = widths_of(valley, evening), plain_parts(valley, evening)
                for road in evening:
                    for far in evening:
                        if road != far and set(held[road]) <= set(held[far]):
                            self.assertLess(widths[road], widths[far])
                        if road != far and set(road) & set(far):
                            self.assertNotEqual(widths[road], widths[far])
                            self.assertEqual(widths[road] < widths[far], evening.index(road) < evening.index(far))

    def test_who_feasted(self):
        for valley in small_valleys(5):
            for evening in all_evenings(valley):
                widths, held = widths_of(valley, evening), plain_parts(valley, evening)
                for road in evening:
                    for house in valley.houses():
                        way = max([valley.way(house, end) for end in road], key=len)
                        ahead = [far for far in evening if far != road and far[0] in way and far[1] in way]
                        self.assertEqual(house in held[road], all(widths[far] < widths[road] for far in ahead))

    def test_how_many_evenings(self):
        for valley in small_valleys(6):
            valley = Valley(valley.houses(), valley.roads(), [1] * len(valley.houses()))
            many = {}
            for evening in all_evenings(valley):
                key = frozen(widths_of(valley, evening))
                many[key] = many.get(key, 0) + 1
            for key, times in many.items():
                self.assertEqual(times * prod(width - 1 for _, width in key), factorial(len(key)))


class AllWidths(unittest.TestCase):
    def held_against(self, valley, widths, first):
        evening = first.get(frozen(widths))
        self.assertEqual(evening_of_widths(valley, widths), evening)
        broken = widths_break(valley, widths)
        self.assertEqual(broken, plain_break(valley, widths))
        self.assertNotEqual(evening is None, broken is None)
        feasts = None if evening is None else plain_feasts(valley, evening)
        self.assertEqual(repr(feasts_by_widths(valley, widths)), repr(feasts))

    def test_up_to_five_houses(self):
        for valley in small_valleys(5):
            for heads in [[1] * 5, valley.heads()]:
                valley = Valley(valley.houses(), valley.roads(), heads[:len(valley.houses())])
                first = first_ones(valley, plain_widths)
                numbers = sorted({width for key in first for _, width in key} | {1})
                for widths in list(all_books(valley.roads(), numbers))[:: 1 + len(numbers) // 5]:
                    self.held_against(valley, widths, first)

    def test_near_to_evenings(self):
        for valley in small_valleys(6):
            first = first_ones(valley, plain_widths)
            self.assertEqual(sorted(first.values()), sorted(first_ones(valley, plain_parts).values()))
            for key in first:
                for widths in nearly(dict(key), sorted({width for _, width in key} | {1, 2, 10 ** 18})):
                    self.held_against(valley, widths, first)

    def test_by_feasts(self):
        for valley in small_valleys(5):
            first = first_ones(valley, plain_feasts)
            for feasts in list(all_books(valley.houses(), range(5)))[:: 1 + len(valley.houses())]:
                evening = first.get(frozen(feasts))
                widths = None if evening is None else plain_widths(valley, evening)
                self.assertEqual(repr(widths_by_feasts(valley, feasts)), repr(widths))


class Sixty(unittest.TestCase):
    def test_sixty(self):
        for heads in [[1] * 60, [10 ** 15 - number for number in range(60)]]:
            for valley, evening in big_evenings(heads=heads):
                widths = widths_of(valley, evening)
                feasts = feasts_of(valley, evening)
                self.assertEqual(widths, plain_widths(valley, evening))
                self.assertEqual(evening_of_widths(valley, widths), first_alike(valley, evening))
                self.assertIsNone(widths_break(valley, widths))
                self.assertEqual(feasts_by_widths(valley, widths), feasts)
                self.assertEqual(widths_by_feasts(valley, feasts), widths)
                broken = widths_break(valley, {**widths, evening[-1]: 10 ** 18})
                self.assertEqual(broken, (valley.houses(), []))

    def test_greatest_widths(self):
        for valley in big_valleys(heads=[10 ** 15] * 60):
            self.assertEqual(widths_break(valley, {road: 10 ** 18 for road in valley.roads()}), (valley.houses(), []))
            whole = {road: 60 * 10 ** 15 for road in valley.roads()}
            self.assertEqual(widths_break(valley, whole), (valley.houses(), valley.roads()))
