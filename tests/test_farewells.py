import unittest

from feasted.errors import BadFeasts, BadMany, BadValley, NoHouse, SameHouse
from feasted.evenings import feasts_of
from feasted.farewells import closing_break, closing_of, farewells, parted_by, still_joined
from feasted.halves import evening_of_feasts, feasts_break, halving
from feasted.refusals import BadClosing
from tests.helpers import (ANYTHING, EVENING, EXAMPLE, LONE, TWO, all_books, all_evenings, big_evenings, frozen,
                           keep_to_the_rules, named, nearly, plain_lots, refused, refused_in_order, small_valleys)

CLOSING = EVENING
FAREWELLS = named([2, 3, 1, 3])


class Example(unittest.TestCase):
    def told(self, function, expected, **more):
        keep_to_the_rules(self, function, {"valley": EXAMPLE, "closing": CLOSING, **more}, expected)

    def test_farewells(self):
        self.told(farewells, FAREWELLS)
        self.told(farewells, FAREWELLS, closing=[("c", "b"), ["b", "a"], ("d", "b")])

    def test_parted(self):
        self.told(parted_by, (("b", "c"), 0), one="a", other="c")
        self.told(parted_by, (("b", "c"), 0), one="c", other="d")
        self.told(parted_by, (("a", "b"), 1), one="d", other="a")
        self.told(parted_by, (("a", "b"), 1), one="b", other="a")
        self.told(parted_by, (("b", "d"), 2), one="b", other="d")

    def test_still_joined(self):
        for house, many, expected in [("b", 0, ["a", "b", "c", "d"]), ("b", 1, ["a", "b", "d"]), ("c", 1, ["c"]),
                                      ("d", 2, ["b", "d"]), ("a", 2, ["a"]), ("d", 3, ["d"])]:
            self.told(still_joined, expected, house=house, many=many)

    def test_by_feasts(self):
        keep_to_the_rules(self, closing_of, {"valley": EXAMPLE, "feasts": FAREWELLS}, CLOSING)
        keep_to_the_rules(self, closing_break, {"valley": EXAMPLE, "feasts": FAREWELLS}, None)
        keep_to_the_rules(self, closing_of, {"valley": EXAMPLE, "feasts": named([2, 2, 2, 2])}, None)
        keep_to_the_rules(self, closing_break, {"valley": EXAMPLE, "feasts": named([2, 2, 2, 2])},
                          ("part", ["a", "b", "c", "d"]))
        keep_to_the_rules(self, closing_break, {"valley": EXAMPLE, "feasts": named([2, 3, 2, 2])}, ("sum", (7, 8)))

    def test_one_and_two_houses(self):
        self.assertEqual((farewells(LONE, []), still_joined(LONE, [], "a", 0), closing_of(LONE, {"a": 0}),
                          closing_of(LONE, {"a": 1}), closing_break(LONE, {"a": 1})),
                         ({"a": 0}, ["a"], [], None, ("sum", (1, 2))))
        closing = [("b", "a")]
        self.assertEqual((farewells(TWO, closing), parted_by(TWO, closing, "b", "a"), closing_of(TWO, {"a": 1, "b": 1})),
                         ({"b": 1, "a": 1}, (("a", "b"), 0), [("a", "b")]))
        self.assertEqual((still_joined(TWO, closing, "a", 0), still_joined(TWO, closing, "a", 1)), (["b", "a"], ["a"]))


class Refused(unittest.TestCase):
    def test_closing(self):
        wrong = [CLOSING[:2], CLOSING + CLOSING[:1], [*CLOSING[:2], ("a", "b")], [*CLOSING[:2], ("a", "c")],
                 [*CLOSING[:2], "bd"], dict.fromkeys(CLOSING)]
        for thing in [*wrong, *ANYTHING]:
            for call in (lambda: farewells(EXAMPLE, thing), lambda: parted_by(EXAMPLE, thing, None, None),
                         lambda: still_joined(EXAMPLE, thing, None, None)):
                refused(self, BadClosing, {"closing": thing}, call)

    def test_each(self):
        for thing in ANYTHING:
            refused(self, NoHouse, {"house": thing}, lambda: parted_by(EXAMPLE, CLOSING, thing, thing))
            refused(self, NoHouse, {"house": thing}, lambda: parted_by(EXAMPLE, CLOSING, "a", thing))
            refused(self, NoHouse, {"house": thing}, lambda: still_joined(EXAMPLE, CLOSING, thing, None))
            refused(self, BadFeasts, {"feasts": thing}, lambda: closing_of(EXAMPLE, thing))
            refused(self, BadFeasts, {"feasts": thing}, lambda: closing_break(EXAMPLE, thing))
            if not isinstance(thing, int) or isinstance(thing, bool) or not 0 <= thing <= 3:
                refused(self, BadMany, {"many": thing}, lambda: still_joined(EXAMPLE, CLOSING, "a", thing))
        refused(self, BadMany, {"many": 4}, lambda: still_joined(EXAMPLE, CLOSING, "a", 4))
        for house in EXAMPLE.houses():
            refused(self, SameHouse, {"house": house}, lambda: parted_by(EXAMPLE, CLOSING, house, house))
        refused(self, SameHouse, {"house": "a"}, lambda: parted_by(LONE, [], "a", "a"))

    def test_in_order(self):
        first = [(["valley"], [7], BadValley, {"thing": 7}), (["closing"], ["x"], BadClosing, {"closing": "x"})]
        good = {"valley": EXAMPLE, "closing": CLOSING}
        refused_in_order(self, farewells, good, first)
        refused_in_order(self, parted_by, {**good, "one": "a", "other": "b"}, first + [
            (["one"], ["x"], NoHouse, {"house": "x"}), (["other"], ["y"], NoHouse, {"house": "y"}),
            (["one", "other"], ["c", "c"], SameHouse, {"house": "c"})])
        refused_in_order(self, still_joined, {**good, "house": "a", "many": 3}, first + [
            (["house"], ["x"], NoHouse, {"house": "x"}), (["many"], [4], BadMany, {"many": 4})])
        for function in (closing_of, closing_break):
            refused_in_order(self, function, {"valley": EXAMPLE, "feasts": FAREWELLS}, first[:1] + [
                (["feasts"], ["y"], BadFeasts, {"feasts": "y"})])


def lots_through(valley, closing):
    """The lots that are joined ahead of the first closing, of the second, .. and behind the last one."""
    return [plain_lots(valley, closing[many:]) for many in range(len(closing) + 1)]


def plain_farewells(valley, closing):
    counts = {house: 0 for house in valley.houses()}
    for road, lots in zip(closing, lots_through(valley, closing)):
        for house in [lot for lot in lots if road[0] in lot][0]:
            counts[house] += 1
    return counts


class AllClosings(unittest.TestCase):
    def test_all(self):
        for valley in small_valleys(5):
            first = {}
            # All closings are all orders of roads, as evenings are.
            for closing in all_evenings(valley):
                expected = plain_farewells(valley, closing)
                first.setdefault(frozen(expected), closing)
                self.assertEqual(repr(farewells(valley, closing)), repr(expected))
                self.assertEqual(feasts_of(valley, closing[::-1]), expected)
                self.assertEqual(halving(valley, expected, valley.houses()), closing[0] if closing else None)
                self.parted(valley, closing, lots_through(valley, closing))
            for feasts in {frozen(book): book for key in first for book in nearly(dict(key), range(5))}.values():
                self.held_against(valley, feasts, first)

    def parted(self, valley, closing, through):
        for one in valley.houses():
            where = [next(lot for lot in lots if one in lot) for lots in through]
            self.assertEqual([still_joined(valley, closing, one, many) for many in range(len(through))], where)
            for other in valley.houses():
                if other != one:
                    many = [other in lot for lot in where].index(False) - 1
                    self.assertEqual(parted_by(valley, closing, one, other), (closing[many], many))

    def test_all_books(self):
        for valley in small_valleys(4):
            first = {}
            for closing in all_evenings(valley):
                first.setdefault(frozen(plain_farewells(valley, closing)), closing)
            for feasts in all_books(valley.houses(), range(5)):
                self.held_against(valley, feasts, first)

    def held_against(self, valley, feasts, first):
        told = closing_of(valley, feasts)
        self.assertEqual(told, first.get(frozen(feasts)))
        self.assertEqual(closing_break(valley, feasts), feasts_break(valley, feasts))
        self.assertEqual(closing_break(valley, feasts) is None, told is not None)


class Sixty(unittest.TestCase):
    def test_big(self):
        for valley, closing in big_evenings():
            numbers = farewells(valley, closing)
            self.assertEqual(numbers, feasts_of(valley, closing[::-1]))
            self.assertEqual(halving(valley, numbers, valley.houses()), closing[0])
            told = closing_of(valley, numbers)
            self.assertEqual(farewells(valley, told), numbers)
            place = {road: at for at, road in enumerate(valley.roads())}
            self.assertLessEqual([place[road] for road in told], [place[road] for road in closing])
            self.assertIsNotNone(evening_of_feasts(valley, numbers))
            for many in (0, 30, 59):
                lots = plain_lots(valley, closing[many:])
                self.assertEqual([still_joined(valley, closing, lot[-1], many) for lot in lots], lots)
            one, other = valley.houses()[3], valley.houses()[40]
            road, many = parted_by(valley, closing, one, other)
            self.assertEqual(road, closing[many])
            self.assertIn(other, still_joined(valley, closing, one, many))
            self.assertNotIn(other, still_joined(valley, closing, one, many + 1))
            self.assertIsNone(closing_of(valley, {**numbers, one: numbers[one] + 1}))
