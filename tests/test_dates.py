import random
import unittest
from fractions import Fraction

from feasted.dates import evening_of_dates, feasts_till, joined_on
from feasted.errors import BadDate, BadDates, BadValley, NoHouse
from tests.helpers import (ANYTHING, EVENING, EXAMPLE, LONE, TWO, all_evenings, big_valleys, keep_to_the_rules, named,
                           plain_parts, refused, refused_in_order, small_valleys)

DATES = [(3, 1), (1, 1), (9, 2)]
NO_DATES = [thing for thing in ANYTHING if not isinstance(thing, tuple)] + [
    (1,), (1, 2, 3), (1, 0), (1, -2), (True, 1), (1, True), ("1", 1), (1, "1"), (1, None), ((1, 1), 1), (1, [1]), "12"]


class Example(unittest.TestCase):
    def told(self, function, expected, dates=DATES, **more):
        keep_to_the_rules(self, function, {"valley": EXAMPLE, "dates": dates, **more}, expected)

    def test_evening(self):
        self.told(evening_of_dates, EVENING)
        self.told(evening_of_dates, EVENING, [(-6, 2), (-100, 9), (0, 5)])
        self.told(evening_of_dates, EXAMPLE.roads(), [(1, 3), (333334, 10 ** 6), (2, 3)])
        self.told(evening_of_dates, EXAMPLE.roads()[::-1], [(10 ** 15, 1), (10 ** 15 - 1, 1), (-10 ** 15, 1)])

    def test_joined(self):
        for one, other, date in [("a", "d", (9, 2)), ("d", "a", (9, 2)), ("a", "c", (3, 1)), ("b", "c", (1, 1)),
                                 ("c", "d", (9, 2)), ("a", "a", None)]:
            self.told(joined_on, date, one=one, other=other)
        loose = [(6, 2), (-4, 6), (0, 7)]
        for one, other, date in [("b", "c", (-2, 3)), ("c", "d", (0, 1)), ("a", "b", (3, 1)), ("d", "d", None)]:
            self.told(joined_on, date, loose, one=one, other=other)

    def test_feasts_till(self):
        for date, numbers in [((3, 1), [1, 2, 2, 0]), ((9, 3), [1, 2, 2, 0]), ((29, 10), [0, 1, 1, 0]),
                              ((1, 1), [0, 1, 1, 0]), ((0, 1), [0, 0, 0, 0]), ((-10 ** 15, 1), [0, 0, 0, 0]),
                              ((9, 2), [2, 3, 3, 1]), ((10 ** 15, 10 ** 6), [2, 3, 3, 1]), ((44, 10), [1, 2, 2, 0])]:
            self.told(feasts_till, named(numbers), date=date)

    def test_one_and_two_houses(self):
        self.assertEqual((evening_of_dates(LONE, []), joined_on(LONE, [], "a", "a"), feasts_till(LONE, [], (5, 1))),
                         ([], None, {"a": 0}))
        self.assertEqual((evening_of_dates(TWO, [(0, 3)]), joined_on(TWO, [(2, 4)], "a", "b")), ([("a", "b")], (1, 2)))
        self.assertEqual(repr(feasts_till(TWO, [(2, 4)], (1, 2))), repr({"b": 1, "a": 1}))


class Refused(unittest.TestCase):
    def test_dates(self):
        calls = [evening_of_dates, lambda valley, dates: joined_on(valley, dates, None, None),
                 lambda valley, dates: feasts_till(valley, dates, None)]
        wrong = [([(1, 1), (2, 2), (3, 1)], 1), ([(1, 1), (2, 1), (4, 2)], 2), ([(1, 1), (2, 1)], 2), ([], 0),
                 (DATES + [(7, 1)], 3), (DATES + [None, 7], 3), ([(1, 1), (1, 1), None], 1), ([(0, 1), (0, 9), 7], 1),
                 ([(-1, 2), (1, 2), (-3, 6)], 2), ([(1, 1), None, (1, 1)], 1), (DATES + [(10 ** 40, 10 ** 39)], 3)]
        wrong += [([(1, 1), thing, (1, 1)], 1) for thing in NO_DATES]
        wrong += [(thing, 0) for thing in ANYTHING if not isinstance(thing, (list, tuple)) or len(thing) == 0]
        for dates, index in wrong:
            for call in calls:
                refused(self, BadDates, {"index": index}, lambda: call(EXAMPLE, dates))
        self.assertRaises(BadDates, evening_of_dates, LONE, [(1, 1)])

    def test_date(self):
        for thing in NO_DATES:
            refused(self, BadDate, {"date": thing}, lambda: feasts_till(EXAMPLE, DATES, thing))

    def test_in_order(self):
        first = [(["valley"], [7], BadValley, {"thing": 7}), (["dates"], [[(1, 1)]], BadDates, {"index": 1})]
        good = {"valley": EXAMPLE, "dates": DATES}
        refused_in_order(self, evening_of_dates, good, first)
        refused_in_order(self, joined_on, {**good, "one": "a", "other": "b"},
                         first + [(["one"], ["x"], NoHouse, {"house": "x"}),
                                  (["other"], ["y"], NoHouse, {"house": "y"})])
        refused_in_order(self, feasts_till, {**good, "date": (1, 1)}, first + [(["date"], ["z"], BadDate, {"date": "z"})])
        for thing in ANYTHING:
            refused(self, NoHouse, {"house": thing}, lambda: joined_on(EXAMPLE, DATES, thing, None))
            refused(self, NoHouse, {"house": thing}, lambda: joined_on(EXAMPLE, DATES, "a", thing))


class AllEvenings(unittest.TestCase):
    def test_all(self):
        chance = random.Random(4)
        for valley in small_valleys(5):
            for evening in all_evenings(valley):
                worths = set()
                while len(worths) < len(evening):
                    worths.add(Fraction(chance.randrange(-9, 10), chance.randrange(1, 7)))
                days = dict(zip(evening, sorted(worths)))
                times = [chance.randrange(1, 4) for _ in evening]
                dates = [(days[road].numerator * many, days[road].denominator * many)
                         for road, many in zip(valley.roads(), times)]
                self.held_against(valley, evening, days, dates)

    def held_against(self, valley, evening, days, dates):
        self.assertEqual(evening_of_dates(valley, dates), evening)
        held = plain_parts(valley, evening)
        for one in valley.houses():
            for other in valley.houses():
                together = [days[road] for road in evening if one in held[road] and other in held[road]]
                date = None if one == other else (together[0].numerator, together[0].denominator)
                self.assertEqual(joined_on(valley, dates, one, other), date)
        for date in [*days.values(), Fraction(-19, 2), Fraction(1, 3), Fraction(0), Fraction(10)]:
            feasts = {house: sum(days[road] <= date and house in held[road] for road in evening)
                      for house in valley.houses()}
            told = feasts_till(valley, dates, (date.numerator * 2, date.denominator * 2))
            self.assertEqual(repr(told), repr(feasts))


class Sixty(unittest.TestCase):
    def test_sixty(self):
        chance = random.Random(6)
        for valley in big_valleys():
            dates = [(chance.randrange(-10 ** 15, 10 ** 15), chance.randrange(1, 10 ** 6)) for _ in valley.roads()]
            days = dict(zip(valley.roads(), [Fraction(*date) for date in dates]))
            evening = sorted(valley.roads(), key=lambda road: days[road])
            self.assertEqual(evening_of_dates(valley, dates), evening)
            houses = valley.houses()
            held = plain_parts(valley, evening)
            for one, other in zip(houses, houses[7:]):
                date = min(days[road] for road in evening if one in held[road] and other in held[road])
                self.assertEqual(joined_on(valley, dates, one, other), (date.numerator, date.denominator))
            for road in evening[::20]:
                feasts = feasts_till(valley, dates, (days[road].numerator, days[road].denominator))
                self.assertEqual(feasts, {house: sum(days[far] <= days[road] and house in held[far] for far in evening)
                                          for house in houses})
