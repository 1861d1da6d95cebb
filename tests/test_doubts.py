import unittest
from itertools import combinations
from math import factorial

from feasted.doubts import all_fitting, all_within, exchanged, suspects, wrong_and_right
from feasted.errors import BadBounds, BadFeasts, BadTold, BadValley
from feasted.evenings import feasts_of
from feasted.halves import evening_of_feasts
from tests.helpers import (ANYTHING, EVENING, EXAMPLE, LONE, TWO, all_books, big_evenings, first_ones, frozen,
                           keep_to_the_rules, named, names_of, nearly, plain_feasts, refused, refused_in_order, row,
                           shuffled, small_valleys, star, tree)

FEASTS = {"a": 2, "b": 3, "c": 3, "d": 1}
BOUNDS = {"a": (1, 2), "b": (3, 3), "c": (1, 3), "d": (1, 20)}


def all_feasts(valley):
    """All by which there is an evening, ascending as the lists of their numbers compare."""
    found = [dict(key) for key in first_ones(valley, plain_feasts)]
    return sorted(found, key=lambda feasts: list(feasts.values()))


class Example(unittest.TestCase):
    def test_fitting(self):
        two = [named([1, 3, 3, 2]), named([2, 3, 3, 1])]
        for told, fitting in [({"b": 3, "c": 3}, two), ({"d": 1, "a": 2}, two[1:]), ({"c": 3, "b": 3, "a": 2}, two[1:]),
                              ({"a": 2, "b": 2, "c": 2}, []), ({"a": 0, "b": 0}, []), ({"a": 300, "b": 300}, []),
                              ({"a": 1, "b": 1}, []), ({"b": 3, "c": 3, "d": 300}, [])]:
            keep_to_the_rules(self, all_fitting, {"valley": EXAMPLE, "told": told}, fitting)

    def test_suspects(self):
        for numbers, houses, both in [([2, 3, 3, 2], ["a", "d"], (2, 1)), ([2, 3, 3, 1], [], None),
                                      ([0, 0, 0, 0], [], None), ([2, 3, 3, 300], ["d"], (300, 1)),
                                      ([2, 3, 3, 0], ["d"], (0, 1)), ([2, 2, 2, 2], [], None)]:
            arguments = {"valley": EXAMPLE, "feasts": named(numbers)}
            keep_to_the_rules(self, suspects, arguments, houses)
            keep_to_the_rules(self, wrong_and_right, arguments, both)

    def test_exchanged(self):
        arguments = {"valley": EXAMPLE, "feasts": FEASTS}
        keep_to_the_rules(self, exchanged, arguments, [("a", "c"), ("a", "d"), ("c", "d")])
        keep_to_the_rules(self, exchanged, {"valley": EXAMPLE, "feasts": named([3, 2, 3, 1])}, [("a", "b"), ("b", "c")])

    def test_within(self):
        within = [named([1, 3, 2, 3]), named([1, 3, 3, 2]), named([2, 3, 1, 3]), named([2, 3, 3, 1])]
        keep_to_the_rules(self, all_within, {"valley": EXAMPLE, "bounds": BOUNDS}, within)
        keep_to_the_rules(self, all_within, {"valley": EXAMPLE, "bounds": {**BOUNDS, "b": (0, 2)}}, [])
        keep_to_the_rules(self, all_within, {"valley": EXAMPLE, "bounds": {**BOUNDS, "a": (2, 2)}}, within[2:])

    def test_one_and_two_houses(self):
        self.assertEqual(all_fitting(LONE, {}), [{"a": 0}])
        self.assertEqual((suspects(LONE, {"a": 0}), wrong_and_right(LONE, {"a": 0})), ([], None))
        self.assertEqual((suspects(LONE, {"a": 5}), wrong_and_right(LONE, {"a": 5})), (["a"], (5, 0)))
        self.assertEqual(exchanged(LONE, {"a": 0}), [])
        self.assertEqual(all_within(LONE, {"a": (0, 20)}), [{"a": 0}])
        self.assertEqual(all_within(LONE, {"a": (1, 20)}), [])
        for told in [{}, {"a": 1}, {"b": 1}]:
            self.assertEqual(repr(all_fitting(TWO, told)), "[{'b': 1, 'a': 1}]")
        self.assertEqual(all_fitting(TWO, {"a": 2}), [])
        self.assertEqual(repr(all_within(TWO, {"a": [1, 1], "b": [0, 1]})), "[{'b': 1, 'a': 1}]")


class Refused(unittest.TestCase):
    def test_told(self):
        wrong = [{}, {"a": 1}, FEASTS, {"a": 1, "b": 2, "x": 3}, {1: 1, "a": 2}, [("a", 1), ("b", 2)]]
        wrong += [{**FEASTS, "x": 1}, {**FEASTS, 1: 1}]
        wrong += [{"a": 1, "b": thing} for thing in [-1, True, None, [1], "1"]]
        for told in wrong + ANYTHING:
            refused(self, BadTold, {"told": told}, lambda: all_fitting(EXAMPLE, told))
        for told in [{"a": 0}, {"b": 0}, [], None]:
            refused(self, BadTold, {"told": told}, lambda: all_fitting(LONE, told))
        full = {"a": 1, "b": 1}
        refused(self, BadTold, {"told": full}, lambda: all_fitting(TWO, full))

    def test_bounds(self):
        pairs = [(2, 1), (-1, 2), (True, 2), (0, True), (0, None), ([0], 1)]
        for span in pairs + [(1,), (1, 2, 3), "12", 3, {0: 1, 1: 2}, None]:
            bounds = {**BOUNDS, "c": span}
            refused(self, BadBounds, {"bounds": bounds}, lambda: all_within(EXAMPLE, bounds))
        wrong = [{**BOUNDS, "e": (1, 2)}, {"a": (1, 2)}, {"a": (1, 2), "b": (1, 2), "c": (1, 2), "x": (1, 2)}]
        for bounds in wrong + ANYTHING:
            refused(self, BadBounds, {"bounds": bounds}, lambda: all_within(EXAMPLE, bounds))

    def test_in_order(self):
        valley = (["valley"], [7], BadValley, {"thing": 7})
        for call in [suspects, wrong_and_right, exchanged]:
            refused_in_order(self, call, {"valley": EXAMPLE, "feasts": FEASTS},
                             [valley, (["feasts"], [8], BadFeasts, {"feasts": 8})])
        refused_in_order(self, all_fitting, {"valley": EXAMPLE, "told": {"a": 1, "b": 1}},
                         [valley, (["told"], [8], BadTold, {"told": 8})])
        refused_in_order(self, all_within, {"valley": EXAMPLE, "bounds": BOUNDS},
                         [valley, (["bounds"], [8], BadBounds, {"bounds": 8})])


class AllFeasts(unittest.TestCase):
    def test_fitting(self):
        for valley in small_valleys(5):
            houses = valley.houses()
            can_be = all_feasts(valley)
            for lacking in [[house] for house in houses] + [list(two) for two in combinations(houses, 2)]:
                others = [house for house in houses if house not in lacking]
                for told in list(all_books(others, range(len(houses) + 1)))[:: 1 + len(houses) // 5]:
                    fitting = [feasts for feasts in can_be if all(feasts[house] == told[house] for house in others)]
                    self.assertEqual(repr(all_fitting(valley, told)), repr(fitting))
                    self.assertLessEqual(len(fitting), len(lacking))
                    if len(fitting) == 2:
                        one, other = lacking
                        self.assertEqual(fitting[0], {**fitting[1], one: fitting[1][other], other: fitting[1][one]})
                        for outer, near in [lacking, lacking[::-1]]:
                            self.assertNotEqual(valley.beside(outer), [near])

    def test_one_wrong(self):
        for valley in small_valleys(5):
            can_be = all_feasts(valley)
            known = {frozen(feasts) for feasts in can_be}
            for right in can_be:
                for feasts in nearly(right, range(7)):
                    pairs = [(house, other[house]) for house in feasts for other in can_be
                             if other != feasts and {**feasts, house: 0} == {**other, house: 0}]
                    if frozen(feasts) in known:
                        self.assertEqual(pairs, [])
                    self.assertEqual(suspects(valley, feasts), [house for house, _ in pairs])
                    both = {(feasts[house], number) for house, number in pairs}
                    self.assertLessEqual(len(both), 1)
                    self.assertEqual(wrong_and_right(valley, feasts), both.pop() if both else None)

    def test_exchanged(self):
        for valley in small_valleys(5):
            houses = valley.houses()
            known = {frozen(feasts) for feasts in all_feasts(valley)}
            for feasts in list(all_books(houses, range(len(houses) + 1)))[:: 1 + len(houses) // 5]:
                pairs = [(one, other) for one, other in combinations(houses, 2) if feasts[one] != feasts[other]
                         and frozen({**feasts, one: feasts[other], other: feasts[one]}) in known]
                self.assertEqual(exchanged(valley, feasts), pairs)

    def test_exchanges_that_are_not_noticed(self):
        for valley in small_valleys(5):
            for feasts in all_feasts(valley):
                for one, other in combinations(valley.houses(), 2):
                    told = {house: feasts[house] for house in feasts if house not in (one, other)}
                    unnoticed = (one, other) in exchanged(valley, feasts)
                    self.assertEqual(len(all_fitting(valley, told)) == 2, unnoticed)

    def test_within(self):
        for valley in small_valleys(6):
            houses = valley.houses()
            can_be = all_feasts(valley)
            self.assertEqual(repr(all_within(valley, {house: (0, 20) for house in houses})), repr(can_be))
            spans = [(0, 0), (0, 2), (1, 3), (2, 2), (2, 20), (3, 4), (20, 20)]
            for shift in range(7):
                for step in range(7):
                    bounds = {house: spans[(shift + at * step) % 7] for at, house in enumerate(houses)}
                    inside = [feasts for feasts in can_be
                              if all(bounds[house][0] <= feasts[house] <= bounds[house][1] for house in houses)]
                    self.assertEqual(all_within(valley, bounds), inside)
            for feasts in can_be:
                self.assertEqual(all_within(valley, {house: [feasts[house]] * 2 for house in houses}), [feasts])


class Great(unittest.TestCase):
    def test_sixty_houses(self):
        for valley, evening in big_evenings():
            feasts = feasts_of(valley, evening)
            houses = valley.houses()
            self.assertEqual((suspects(valley, feasts), wrong_and_right(valley, feasts)), ([], None))
            for house in houses[::19]:
                told = {each: feasts[each] for each in feasts if each != house}
                self.assertEqual(all_fitting(valley, told), [feasts])
                del told[houses[7]]
                fitting = all_fitting(valley, told)
                self.assertIn(feasts, fitting)
                self.assertLessEqual(len(fitting), 2)
                for wrong in [300, 0, feasts[house] + 1]:
                    if wrong != feasts[house]:
                        self.assertIn(house, suspects(valley, {**feasts, house: wrong}))
                        self.assertEqual(wrong_and_right(valley, {**feasts, house: wrong}), (wrong, feasts[house]))

    def test_twenty_houses_exchanged(self):
        for valley in [row(20), star(20), tree(20, 3), tree(20, 4)]:
            for evening in [valley.roads(), shuffled(valley, 1)]:
                feasts = feasts_of(valley, evening)
                pairs = exchanged(valley, feasts)
                for one, other in combinations(valley.houses(), 2):
                    turned = {**feasts, one: feasts[other], other: feasts[one]}
                    can_be = feasts[one] != feasts[other] and evening_of_feasts(valley, turned) is not None
                    self.assertIs((one, other) in pairs, can_be)

    def test_eight_houses_within(self):
        free = {name: (0, 20) for name in names_of(8)}
        self.assertEqual(len(all_within(star(8), free)), factorial(7))
        self.assertEqual(len(all_within(row(8), free)), 429)
        self.assertEqual(len(all_within(star(8), {**free, "h3": (3, 3)})), factorial(6))
        for seed in range(3):
            valley = tree(8, seed)
            told = all_within(valley, free)
            self.assertEqual(told, sorted(told, key=lambda feasts: list(feasts.values())))
            self.assertTrue(all(evening_of_feasts(valley, feasts) for feasts in told))
            self.assertEqual(len({frozen(feasts) for feasts in told}), len(told))
