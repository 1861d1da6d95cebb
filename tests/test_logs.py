import itertools
import unittest
from math import factorial

from feasted.errors import BadEvening, BadLog, BadValley, NoHouse, NoSuchLog
from feasted.evenings import is_evening
from feasted.logs import evening_of_log, evenings_with_log, feasts_by_log, log_fault, log_of
from tests.helpers import (ANYTHING, EVENING, EXAMPLE, LONE, TWO, all_evenings, big_evenings, frozen, keep_to_the_rules,
                           plain_feasts, plain_parts, refused, refused_in_order, small_valleys)

BACK = [evening_of_log, log_fault, evenings_with_log]


def plain_log(valley, evening, house):
    held = plain_parts(valley, evening)
    met, log = {house}, []
    for road in evening:
        if house in held[road]:
            log.append([far for far in held[road] if far not in met])
            met |= set(held[road])
    return log


def plain_fault(valley, house, log):
    """[14.2], word by word."""
    for index, some in enumerate(log):
        reached = {some[0]}
        for _ in some:
            reached |= {far for far in some for near in reached if far in valley.beside(near)}
        if reached != set(some):
            return index, "apart"
        ahead = [house] + [far for others in log[:index] for far in others]
        if not any(far in ahead for each in some for far in valley.beside(each)):
            return index, "far"
    return None


def all_logs(others):
    """All lists of lists with just all others."""
    if not others:
        yield []
    for many in range(1, len(others) + 1):
        for some in itertools.combinations(others, many):
            left = [house for house in others if house not in some]
            for log in all_logs(left):
                yield [list(some)] + log


class Example(unittest.TestCase):
    def told(self, function, expected, **arguments):
        keep_to_the_rules(self, function, {"valley": EXAMPLE, **arguments}, expected)

    def test_logs(self):
        for house, log in [("a", [["b", "c"], ["d"]]), ("b", [["c"], ["a"], ["d"]]), ("c", [["b"], ["a"], ["d"]]),
                           ("d", [["a", "b", "c"]])]:
            self.told(log_of, log, evening=EVENING, house=house)

    def test_back(self):
        self.told(evenings_with_log, 1, house="c", log=[["b"], ["a"], ["d"]])
        self.told(evening_of_log, EVENING, house="c", log=[["b"], ["a"], ["d"]])
        self.told(log_fault, None, house="c", log=[["b"], ["a"], ["d"]])
        for log in [["a", "b", "c"]], [["c", "a", "b"]]:
            self.told(evenings_with_log, 2, house="d", log=log)
            self.told(log_fault, None, house="d", log=log)
            for other, span in [("a", (2, 3)), ("b", (3, 3)), ("c", (2, 3)), ("d", (1, 1))]:
                self.told(feasts_by_log, span, house="d", log=log, other=other)
        for house, log, fault in [("b", [["a", "c"], ["d"]], (0, "apart")), ("a", [["c"], ["b"], ["d"]], (0, "far")),
                                  ("a", [["c", "d"], ["b"]], (0, "apart")), ("d", [["b"], ["a", "c"]], (1, "apart"))]:
            self.told(log_fault, fault, house=house, log=log)
            self.told(evening_of_log, None, house=house, log=log)
            self.told(evenings_with_log, 0, house=house, log=log)

    def test_either_order_means_the_same(self):
        for order in itertools.permutations("abc"):
            self.assertEqual(evening_of_log(EXAMPLE, "d", [order]), evening_of_log(EXAMPLE, "d", [["a", "b", "c"]]))

    def test_one_and_two_houses(self):
        self.assertEqual([log_of(LONE, [], "a"), evening_of_log(LONE, "a", []), log_fault(LONE, "a", []),
                          evenings_with_log(LONE, "a", []), feasts_by_log(LONE, "a", [], "a")], [[], [], None, 1, (0, 0)])
        log = [["a"]]
        self.assertEqual([log_of(TWO, [("a", "b")], "b"), evening_of_log(TWO, "b", log), log_fault(TWO, "b", log),
                          evenings_with_log(TWO, "b", log), feasts_by_log(TWO, "b", log, "a")],
                         [log, [("a", "b")], None, 1, (1, 1)])


class Refused(unittest.TestCase):
    def test_log(self):
        wrong = [([["b"], ["c"]], 2), ([["b", "c"], [], ["d"]], 1), ([["b"], ["b"], ["c", "d"]], 1), ([["b", "b"]], 0),
                 ([["b"], ["a"]], 1), ([["b", "c"], ["d", "x"]], 1), ([["b", "c", "d"], []], 1), ([], 0),
                 ([["b", "c", "d"], ["c"]], 1), ([["b", "c", "d"], ["x"], 7], 1), ("bcd", 0), (["bcd"], 0), ([["b"]], 1),
                 ([["b", "c", "d"], "a"], 1), ({"b": ["c"]}, 0), ([["b"], {"c": 1}, ["d"]], 1)]
        wrong += [([["b"], ["c", thing], ["d"]], 1) for thing in ANYTHING]
        wrong += [([["b"], thing, ["c", "d"]], 1) for thing in ANYTHING]
        wrong += [(thing, 0) for thing in ANYTHING if not isinstance(thing, (list, tuple)) or len(thing) == 0]
        for log, index in wrong:
            for call in BACK:
                refused(self, BadLog, {"index": index}, lambda: call(EXAMPLE, "a", log))
            refused(self, BadLog, {"index": index}, lambda: feasts_by_log(EXAMPLE, "a", log, None))
        self.assertRaises(BadLog, log_fault, LONE, "a", [["a"]])
        self.assertRaises(BadLog, log_fault, LONE, "a", [[]])

    def test_houses(self):
        for thing in ANYTHING:
            refused(self, NoHouse, {"house": thing}, lambda: log_of(EXAMPLE, EVENING, thing))
            for call in BACK:
                refused(self, NoHouse, {"house": thing}, lambda: call(EXAMPLE, thing, [["b", "c", "d"]]))
            refused(self, NoHouse, {"house": thing}, lambda: feasts_by_log(EXAMPLE, "a", [["d"], ["b", "c"]], thing))

    def test_no_such_log(self):
        for house, log in [("b", [["a", "c"], ["d"]]), ("a", [["c"], ["b"], ["d"]])]:
            for other in "abcd":
                with self.assertRaises(NoSuchLog) as caught:
                    feasts_by_log(EXAMPLE, house, log, other)
                self.assertEqual(repr(caught.exception.fault), repr(log_fault(EXAMPLE, house, log)))
                self.assertEqual(set(vars(caught.exception)), {"fault"})

    def test_in_order(self):
        valley = (["valley"], [7], BadValley, {"thing": 7})
        house = (["house"], ["x"], NoHouse, {"house": "x"})
        log = (["log"], [[["b"], 8]], BadLog, {"index": 1})
        refused_in_order(self, log_of, {"valley": EXAMPLE, "evening": EVENING, "house": "a"},
                         [valley, (["evening"], [()], BadEvening, {"evening": ()}), house])
        good = {"valley": EXAMPLE, "house": "c", "log": [["b"], ["a"], ["d"]]}
        for call in BACK:
            refused_in_order(self, call, good, [valley, house, log])
        refused_in_order(self, feasts_by_log, {**good, "other": "a"},
                         [valley, house, log, (["other"], ["y"], NoHouse, {"house": "y"})])
        refused(self, NoHouse, {"house": "y"}, lambda: feasts_by_log(EXAMPLE, "a", [["c"], ["b"], ["d"]], "y"))


class AllLogs(unittest.TestCase):
    def test_of_evenings(self):
        for valley in small_valleys(6):
            for evening in all_evenings(valley)[::2]:
                for house in valley.houses():
                    self.assertEqual(log_of(valley, evening, house), plain_log(valley, evening, house))

    def held_against(self, valley, house, log, evenings):
        fault = log_fault(valley, house, log)
        self.assertEqual(repr(fault), repr(plain_fault(valley, house, log)))
        self.assertNotEqual(fault is None, not evenings)
        self.assertEqual(evenings_with_log(valley, house, log), len(evenings))
        found = evening_of_log(valley, house, [some[::-1] for some in log])
        self.assertEqual(found, evening_of_log(valley, house, log))
        if not evenings:
            self.assertIsNone(found)
            return
        self.assertIn(found, evenings)
        orders = factorial(len(valley.roads()))
        for index in range(len(log)):
            orders //= sum(len(some) for some in log[:index + 1])
        self.assertEqual(orders, len(evenings))
        feasts = [plain_feasts(valley, evening) for evening in evenings]
        for other in valley.houses():
            numbers = sorted({book[other] for book in feasts})
            self.assertEqual(numbers, list(range(numbers[0], numbers[-1] + 1)))
            self.assertEqual(feasts_by_log(valley, house, log, other), (numbers[0], numbers[-1]))

    def test_all_logs(self):
        for valley in small_valleys(5):
            evenings = all_evenings(valley)
            for house in valley.houses():
                found = {}
                for evening in evenings:
                    found.setdefault(frozen(plain_log(valley, evening, house)), []).append(evening)
                others = [far for far in valley.houses() if far != house]
                for log in all_logs(others):
                    self.held_against(valley, house, log, found.get(frozen(log), []))

    def test_six_houses(self):
        for valley in list(small_valleys(6))[-2:]:
            for house in valley.houses()[::4]:
                found = {}
                for evening in all_evenings(valley):
                    found.setdefault(frozen(plain_log(valley, evening, house)), []).append(evening)
                for key, evenings in found.items():
                    self.held_against(valley, house, [list(some) for some in key], evenings)


class Sixty(unittest.TestCase):
    def test_sixty(self):
        for valley, evening in big_evenings():
            for house in valley.houses()[::25]:
                log = log_of(valley, evening, house)
                self.assertEqual(log, plain_log(valley, evening, house))
                self.assertIsNone(log_fault(valley, house, log))
                found = evening_of_log(valley, house, log)
                self.assertTrue(is_evening(valley, found))
                self.assertEqual(log_of(valley, found, house), log)
                many = factorial(59)
                for index in range(len(log)):
                    many //= sum(len(some) for some in log[:index + 1])
                self.assertEqual(evenings_with_log(valley, house, log), many)
                feasts = plain_feasts(valley, evening)
                for other in valley.houses()[::7]:
                    least, most = feasts_by_log(valley, house, log, other)
                    self.assertTrue(least <= feasts[other] <= most)
                turned = log[::-1]
                if len(log) > 1:
                    self.assertEqual(log_fault(valley, house, turned), plain_fault(valley, house, turned))
