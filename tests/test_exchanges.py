import unittest

from feasted.alikes import alike_at, count_alike
from feasted.errors import BadEvening, BadValley, NotAlike
from feasted.evenings import are_alike
from feasted.exchanges import exchange_row, fewest_exchanges
from tests.helpers import (ANYTHING, EVENING, EXAMPLE, LONE, all_evenings, alike_ones, halved_evening,
                           keep_to_the_rules, plain_parts, refused, refused_in_order, row, small_valleys)

NAMED_ROW = row(5)
AB, BC, CD, DE = NAMED_ROW.roads()
BOTH = [fewest_exchanges, exchange_row]


def one_exchange_off(evening):
    """All lists that come of it by exchanging two next to one another."""
    return [evening[:at] + [evening[at + 1], evening[at]] + evening[at + 2:] for at in range(len(evening) - 1)]


def plain_distances(alike, begin):
    """From one evening to all alike ones, exchange by exchange."""
    far = {tuple(begin): 0}
    waiting = [begin]
    while waiting:
        evening = waiting.pop(0)
        for other in one_exchange_off(evening):
            if other in alike and tuple(other) not in far:
                far[tuple(other)] = far[tuple(evening)] + 1
                waiting.append(other)
    return far


class Example(unittest.TestCase):
    def test_example(self):
        two = {"valley": NAMED_ROW, "evening": [AB, CD, BC, DE], "other": [CD, AB, BC, DE]}
        keep_to_the_rules(self, fewest_exchanges, two, 1)
        keep_to_the_rules(self, exchange_row, two, [[AB, CD, BC, DE], [CD, AB, BC, DE]])
        one = {**two, "other": [("h1", "h0"), ("h3", "h2"), ("h2", "h1"), ("h4", "h3")]}
        keep_to_the_rules(self, fewest_exchanges, one, 0)
        keep_to_the_rules(self, exchange_row, one, [[AB, CD, BC, DE]])
        self.assertEqual((fewest_exchanges(LONE, [], []), exchange_row(LONE, [], [])), (0, [[]]))


class Refused(unittest.TestCase):
    def test_not_alike(self):
        for call in BOTH:
            refused(self, NotAlike, {}, lambda: call(NAMED_ROW, [AB, CD, BC, DE], [AB, BC, CD, DE]))
            refused(self, NotAlike, {}, lambda: call(NAMED_ROW, [AB, BC, CD, DE], [AB, CD, BC, DE]))

    def test_other(self):
        for call in BOTH:
            for thing in ANYTHING + [EVENING[:2], EVENING + EVENING[:1], EVENING[:2] * 2]:
                refused(self, BadEvening, {"evening": thing}, lambda: call(EXAMPLE, EVENING, thing))

    def test_in_order(self):
        for call in BOTH:
            refused_in_order(self, call, {"valley": EXAMPLE, "evening": EVENING, "other": EVENING},
                             [(["valley"], [7], BadValley, {"thing": 7}),
                              (["evening"], [8], BadEvening, {"evening": 8}),
                              (["other"], [9], BadEvening, {"evening": 9}),
                              (["other"], [EVENING[::-1]], NotAlike, {})])


class AllEvenings(unittest.TestCase):
    def held_against(self, valley, alike, evening, far):
        for other in alike:
            many = far[tuple(other)]
            self.assertEqual(fewest_exchanges(valley, evening, other), many)
            pairs = [(one, two) for one in evening for two in evening if evening.index(one) < evening.index(two)]
            self.assertEqual(many, sum(other.index(one) > other.index(two) for one, two in pairs))
            passed = exchange_row(valley, evening, other)
            self.assertEqual((passed[0], passed[-1], len(passed)), (evening, other, many + 1))
            for ahead, behind in zip(passed, passed[1:]):
                self.assertIn(behind, alike)
                self.assertIn(behind, one_exchange_off(ahead))

    def test_all(self):
        for valley in small_valleys(6):
            for alike in alike_ones(valley):
                for evening in alike[::max(1, len(alike) // 4)]:
                    self.held_against(valley, alike, evening, plain_distances(alike, evening))

    def test_when_two_may_be_exchanged(self):
        for valley in small_valleys(5):
            for evening in all_evenings(valley):
                held = plain_parts(valley, evening)
                for at, other in enumerate(one_exchange_off(evening)):
                    one, two = evening[at], evening[at + 1]
                    apart = not set(one) <= set(held[two]) and not set(two) <= set(held[one])
                    self.assertEqual(are_alike(valley, evening, other), apart)


class Sixty(unittest.TestCase):
    def test_two_hundred_pairs(self):
        valley = row(60)
        roads = valley.roads()
        first = roads[:29] + roads[30:] + [roads[29]]
        other = roads[:22] + roads[30:58] + roads[22:29] + roads[58:] + [roads[29]]
        self.assertEqual(fewest_exchanges(valley, first, other), 28 * 7)
        for begin, end in [(first, other), (other, first)]:
            passed = exchange_row(valley, begin, end)
            self.assertEqual((passed[0], passed[-1], len(passed)), (begin, end, 28 * 7 + 1))
            for ahead, behind in zip(passed, passed[1:]):
                self.assertIn(behind, one_exchange_off(ahead))
                self.assertTrue(are_alike(valley, begin, behind))

    def test_far_from_one_another(self):
        valley = row(60)
        begin = halved_evening(valley)
        end = alike_at(valley, begin, count_alike(valley, begin) // 2)
        passed = exchange_row(valley, begin, end)
        self.assertEqual((passed[0], passed[-1], len(passed)), (begin, end, fewest_exchanges(valley, begin, end) + 1))
        for ahead, behind in zip(passed, passed[1:]):
            self.assertIn(behind, one_exchange_off(ahead))
