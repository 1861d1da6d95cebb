import itertools
import random
import unittest

from feasted.errors import BadEvening, BadFeasts, BadValley, NoHouse
from feasted.evenings import feasts_of
from feasted.farewells import farewells
from feasted.halves import feasts_break
from feasted.nights import longest, night_break, night_of, night_of_numbers, together
from feasted.refusals import BadClosing, BadOthers
from tests.helpers import (ANYTHING, EVENING, EXAMPLE, LONE, TWO, all_evenings, big_evenings, frozen, keep_to_the_rules,
                           named, nearly, plain_feasts, plain_lots, refused, refused_in_order, shuffled, small_valleys,
                           star)

CLOSING = EVENING
FEASTS = named([2, 3, 3, 1])
FAREWELLS = named([2, 3, 1, 3])


class Example(unittest.TestCase):
    def told(self, function, expected, **more):
        keep_to_the_rules(self, function, {"valley": EXAMPLE, "evening": EVENING, "closing": CLOSING, **more}, expected)

    def test_together(self):
        for one, other, many in [("b", "c", 4), ("a", "b", 4), ("d", "b", 4), ("a", "c", 3), ("a", "d", 3), ("c", "d", 2),
                                 ("a", "a", 6), ("c", "c", 6)]:
            self.told(together, many, one=one, other=other)
            self.told(together, many, one=other, other=one)
        turned = {"valley": EXAMPLE, "evening": EVENING, "closing": EVENING[::-1], "one": "b", "other": "c"}
        keep_to_the_rules(self, together, turned, 6)

    def test_longest(self):
        self.told(longest, [("a", "b"), ("b", "c"), ("b", "d")])
        self.told(longest, [("b", "c")], closing=EVENING[::-1])

    def test_night(self):
        self.told(night_of, [2, 3, 4, 4, 3, 2], house="b")
        self.told(night_of, [2, 3, 4, 4], house="c")
        self.told(night_of, [4, 4, 3, 2], house="d")
        self.told(night_of, [3, 4, 4, 3], house="a")

    def test_numbers(self):
        keep_to_the_rules(self, night_of_numbers, {"valley": EXAMPLE, "feasts": FEASTS, "others": FAREWELLS},
                          (EVENING, CLOSING))
        keep_to_the_rules(self, night_break, {"valley": EXAMPLE, "feasts": FEASTS, "others": FAREWELLS}, None)
        part, light = named([2, 2, 2, 2]), named([3, 3, 3, 2])
        for feasts, others, broken in [(part, light, ("evening", ("part", ["a", "b", "c", "d"]))),
                                       (light, part, ("evening", ("sum", (5, 8)))),
                                       (FEASTS, part, ("closing", ("part", ["a", "b", "c", "d"]))),
                                       (part, FEASTS, ("evening", ("part", ["a", "b", "c", "d"])))]:
            arguments = {"valley": EXAMPLE, "feasts": feasts, "others": others}
            keep_to_the_rules(self, night_of_numbers, arguments, None)
            keep_to_the_rules(self, night_break, arguments, broken)

    def test_one_and_two_houses(self):
        self.assertEqual((together(LONE, [], [], "a", "a"), longest(LONE, [], []), night_of(LONE, [], [], "a"),
                          night_of_numbers(LONE, {"a": 0}, {"a": 0}), night_break(LONE, {"a": 0}, {"a": 1})),
                         (0, [], [], ([], []), ("closing", ("sum", (1, 2)))))
        night = TWO, [("a", "b")], [("b", "a")]
        self.assertEqual((together(*night, "a", "b"), together(*night, "b", "b"), longest(*night), night_of(*night, "a")),
                         (2, 2, [("b", "a")], [2, 2]))


class Refused(unittest.TestCase):
    def test_in_order(self):
        first = [(["valley"], [7], BadValley, {"thing": 7}), (["evening"], ["x"], BadEvening, {"evening": "x"}),
                 (["closing"], ["y"], BadClosing, {"closing": "y"})]
        good = {"valley": EXAMPLE, "evening": EVENING, "closing": CLOSING}
        refused_in_order(self, longest, good, first)
        refused_in_order(self, together, {**good, "one": "a", "other": "b"}, first + [
            (["one"], ["x"], NoHouse, {"house": "x"}), (["other"], ["y"], NoHouse, {"house": "y"})])
        refused_in_order(self, night_of, {**good, "house": "a"}, first + [(["house"], ["x"], NoHouse, {"house": "x"})])
        for function in (night_of_numbers, night_break):
            refused_in_order(self, function, {"valley": EXAMPLE, "feasts": FEASTS, "others": FAREWELLS}, first[:1] + [
                (["feasts"], ["v"], BadFeasts, {"feasts": "v"}), (["others"], ["w"], BadOthers, {"others": "w"})])
            # What is no evening's is told, not refused; what is no feasts is refused ahead of that.
            refused(self, BadOthers, {"others": None}, lambda: function(EXAMPLE, named([0] * 4), None))

    def test_each(self):
        for thing in ANYTHING:
            refused(self, NoHouse, {"house": thing}, lambda: together(EXAMPLE, EVENING, CLOSING, thing, thing))
            refused(self, NoHouse, {"house": thing}, lambda: together(EXAMPLE, EVENING, CLOSING, "a", thing))
            refused(self, NoHouse, {"house": thing}, lambda: night_of(EXAMPLE, EVENING, CLOSING, thing))
            for call in (lambda: together(EXAMPLE, EVENING, thing, None, None), lambda: longest(EXAMPLE, EVENING, thing),
                         lambda: night_of(EXAMPLE, EVENING, thing, None)):
                refused(self, BadClosing, {"closing": thing}, call)
            for call in (lambda: together(EXAMPLE, thing, None, None, None), lambda: longest(EXAMPLE, thing, None),
                         lambda: night_of(EXAMPLE, thing, None, None)):
                refused(self, BadEvening, {"evening": thing}, call)
            for function in (night_of_numbers, night_break):
                refused(self, BadFeasts, {"feasts": thing}, lambda: function(EXAMPLE, thing, thing))
                refused(self, BadOthers, {"others": thing}, lambda: function(EXAMPLE, FEASTS, thing))
        for wrong in [{**FEASTS, "e": 1}, {**FEASTS, "a": True}, {**FEASTS, "a": -1}, named([1, 2, 3])]:
            refused(self, BadOthers, {"others": wrong}, lambda: night_break(EXAMPLE, FEASTS, wrong))


def plain_night(valley, evening, closing):
    """The lots ahead of the first deed, and behind each deed."""
    return [plain_lots(valley, evening[:many]) for many in range(len(evening))] + [
        plain_lots(valley, closing[many:]) for many in range(len(closing) + 1)]


def plain_together(night, one, other):
    """From the deed behind which both are in one lot to that behind which they are no more, both with it."""
    joined = [any(one in lot and other in lot for lot in lots) for lots in night]
    return len(night) - 1 if one == other else joined.count(True) + 1


def plain_night_of(night, evening, closing, house):
    """At a feast the lot behind the deed, at a farewell the lot ahead of it."""
    sat = []
    for at, road in enumerate([*evening, *closing]):
        lots = night[at + 1] if at < len(evening) else night[at]
        sat += [len(lot) for lot in lots if road[0] in lot and house in lot]
    return sat


class AllNights(unittest.TestCase):
    def test_all(self):
        for valley in small_valleys(5):
            evenings = all_evenings(valley)
            if len(valley.houses()) < 5:
                nights = list(itertools.product(evenings, evenings))
            else:
                nights = list(itertools.product(evenings, evenings))[::5]
            for evening, closing in nights:
                self.held_against(valley, evening, closing)

    def held_against(self, valley, evening, closing):
        night = plain_night(valley, evening, closing)
        many = {(one, other): plain_together(night, one, other)
                for one in valley.houses() for other in valley.houses()}
        for one, other in many:
            self.assertEqual(together(valley, evening, closing, one, other), many[one, other])
            way = valley.way(one, other)
            self.assertTrue(all(many[one, other] <= many[pair] for pair in zip(way, way[1:])))
        pairs = list(itertools.combinations(valley.houses(), 2))
        told = longest(valley, evening, closing)
        self.assertEqual(told, [pair for pair in pairs if many[pair] == max(many[each] for each in pairs)])
        self.assertEqual(any(other in valley.beside(one) for one, other in told), bool(pairs))
        for house in valley.houses():
            self.assertEqual(night_of(valley, evening, closing, house), plain_night_of(night, evening, closing, house))

    def test_both_in_one_book(self):
        for valley in small_valleys(4):
            first, last = {}, {}
            for evening in all_evenings(valley):
                first.setdefault(frozen(plain_feasts(valley, evening)), evening)
                last.setdefault(frozen(farewells(valley, evening)), evening)
            for key, other in itertools.product(first, last):
                self.numbers(valley, dict(key), dict(other), (first[key], last[other]))
                for feasts in list(nearly(dict(key), range(4)))[1::3]:
                    both = None if frozen(feasts) not in first else (first[frozen(feasts)], last[other])
                    self.numbers(valley, feasts, dict(other), both)
                for others in list(nearly(dict(other), range(4)))[2::3]:
                    both = None if frozen(others) not in last else (first[key], last[frozen(others)])
                    self.numbers(valley, dict(key), others, both)

    def numbers(self, valley, feasts, others, expected):
        self.assertEqual(night_of_numbers(valley, feasts, others), expected)
        broken = feasts_break(valley, feasts), feasts_break(valley, others)
        plain = None
        if broken[0] is not None:
            plain = "evening", broken[0]
        elif broken[1] is not None:
            plain = "closing", broken[1]
        self.assertEqual(night_break(valley, feasts, others), plain)
        self.assertEqual(plain is None, expected is not None)

    def test_added_up_they_tell_neither(self):
        valley = star(4)
        sums = {}
        for evening, closing in itertools.product(all_evenings(valley), repeat=2):
            feasts, others = feasts_of(valley, evening), farewells(valley, closing)
            both = tuple(feasts[house] + others[house] for house in valley.houses())
            sums.setdefault(both, []).append((frozen(feasts), frozen(others)))
        self.assertTrue(any(not set(one) & set(other) for nights in sums.values() for one in nights for other in nights))


class Sixty(unittest.TestCase):
    def test_big(self):
        chance = random.Random(3)
        for valley, evening in big_evenings():
            closing = shuffled(valley, 9)
            night = plain_night(valley, evening, closing)
            for _ in range(10):
                one, other = chance.choices(valley.houses(), k=2)
                self.assertEqual(together(valley, evening, closing, one, other), plain_together(night, one, other))
                self.assertEqual(night_of(valley, evening, closing, one), plain_night_of(night, evening, closing, one))
            told = longest(valley, evening, closing)
            most = {together(valley, evening, closing, one, other) for one, other in told}
            neighbours = [together(valley, evening, closing, one, other) for one, other in valley.roads()]
            self.assertEqual(most, {max(neighbours)})
            feasts, others = feasts_of(valley, evening), farewells(valley, closing)
            came, went = night_of_numbers(valley, feasts, others)
            self.assertEqual((feasts_of(valley, came), farewells(valley, went)), (feasts, others))
            self.assertIsNone(night_break(valley, feasts, others))
            self.assertEqual(night_break(valley, feasts, {**others, "h5": 300})[0], "closing")
