import unittest

from feasted.errors import BadRest, BadValley, BadWidths
from feasted.lackingwidths import rest_break, width_lacking, wrong_widths
from feasted.valleys import Valley
from feasted.widths import widths_of
from tests.helpers import (ANYTHING, LONE, TWO, all_books, big_evenings, first_ones, frozen, keep_to_the_rules, nearly,
                           refused, refused_in_order, small_valleys)
from tests.test_widths import AB, BC, BD, GROWN, WIDTHS, plain_break, plain_widths

REST = {BC: 5, BD: 10}


class Example(unittest.TestCase):
    def test_lacking(self):
        for rest, width, broken in [(REST, 6, None), ({AB: 6, BD: 10}, 5, None), ({AB: 6, BC: 5}, 10, None),
                                    ({AB: 10, BD: 10}, None, (list("abcd"), [AB, BD])),
                                    ({BC: 6, BD: 10}, 3, None), ({BC: 6, BD: 9}, None, (["b", "c"], [])),
                                    ({AB: 10 ** 18, BC: 1}, None, (["a", "b", "c"], []))]:
            keep_to_the_rules(self, width_lacking, {"valley": GROWN, "rest": rest}, width)
            keep_to_the_rules(self, rest_break, {"valley": GROWN, "rest": rest}, broken)

    def test_wrong(self):
        for widths, wrong in [([6, 5, 10], []), ([5, 5, 10], [(AB, 6)]), ([10, 5, 10], [(AB, 6), (BD, 9)]),
                              ([6, 5, 1], [(BD, 10)]), ([1, 1, 1], []), ([6, 10 ** 18, 10], [(BC, 5)])]:
            arguments = {"valley": GROWN, "widths": dict(zip(GROWN.roads(), widths))}
            keep_to_the_rules(self, wrong_widths, arguments, wrong)

    def test_one_and_two_houses(self):
        self.assertEqual(wrong_widths(LONE, {}), [])
        self.assertEqual((width_lacking(TWO, {}), rest_break(TWO, {})), (7, None))
        self.assertEqual(wrong_widths(TWO, {("a", "b"): 7}), [])
        self.assertEqual(wrong_widths(TWO, {("a", "b"): 1}), [(("a", "b"), 7)])
        for rest in [{}, {("a", "b"): 1}, None]:
            for call in [width_lacking, rest_break]:
                refused(self, BadRest, {"rest": rest}, lambda: call(LONE, rest))


class Refused(unittest.TestCase):
    def test_rest(self):
        wrong = [WIDTHS, {AB: 6}, {}, {AB: 6, ("c", "b"): 5}, {AB: 6, BC: 0}, {AB: 6, BC: True}, {AB: 6, BC: None},
                 {AB: 6, "bc": 5}, {**WIDTHS, 1: 1}, [AB, BC]]
        for rest in wrong + ANYTHING:
            for call in [width_lacking, rest_break]:
                refused(self, BadRest, {"rest": rest}, lambda: call(GROWN, rest))

    def test_in_order(self):
        valley = (["valley"], [7], BadValley, {"thing": 7})
        for call in [width_lacking, rest_break]:
            refused_in_order(self, call, {"valley": GROWN, "rest": REST},
                             [valley, (["rest"], [()], BadRest, {"rest": ()})])
        refused_in_order(self, wrong_widths, {"valley": GROWN, "widths": WIDTHS},
                         [valley, (["widths"], [()], BadWidths, {"widths": ()})])
        for thing in ANYTHING:
            refused(self, BadWidths, {"widths": thing}, lambda: wrong_widths(GROWN, thing))


class AllWidths(unittest.TestCase):
    def test_one_lacking(self):
        for valley in small_valleys(5):
            for heads in [[1] * 5, valley.heads()]:
                valley = Valley(valley.houses(), valley.roads(), heads[:len(valley.houses())])
                due = {}
                numbers = {1}
                for key in first_ones(valley, plain_widths):
                    for road, width in key:
                        numbers.add(width)
                        rest = frozen({each: worth for each, worth in key if each != road})
                        self.assertEqual(due.setdefault(rest, width), width)
                for road in valley.roads():
                    others = [each for each in valley.roads() if each != road]
                    for rest in list(all_books(others, sorted(numbers)))[:: 1 + len(numbers) // 5]:
                        width, broken = due.get(frozen(rest)), rest_break(valley, rest)
                        self.assertEqual(width_lacking(valley, rest), width)
                        self.assertEqual(broken, plain_break(valley, rest, road))
                        self.assertNotEqual(width is None, broken is None)
                for rest in due:
                    self.assertEqual(width_lacking(valley, dict(rest)), due[rest])

    def test_one_wrong(self):
        for valley in small_valleys(5):
            can_be = [dict(key) for key in first_ones(valley, plain_widths)]
            numbers = sorted({width for widths in can_be for width in widths.values()} | {1, 30})
            for right in can_be:
                for widths in nearly(right, numbers):
                    pairs = []
                    for road in valley.roads():
                        pairs += [(road, other[road]) for other in can_be
                                  if other[road] != widths[road] and {**widths, road: other[road]} == other]
                    if widths in can_be:
                        self.assertEqual(pairs, [])
                    self.assertEqual(wrong_widths(valley, widths), pairs)


class Sixty(unittest.TestCase):
    def test_sixty(self):
        for heads in [[1] * 60, [10 ** 15 - number for number in range(60)]]:
            for valley, evening in list(big_evenings(heads=heads))[::3]:
                widths = widths_of(valley, evening)
                self.assertEqual(wrong_widths(valley, widths), [])
                for road in valley.roads()[::29]:
                    rest = {each: widths[each] for each in widths if each != road}
                    self.assertEqual(width_lacking(valley, rest), widths[road])
                    self.assertIsNone(rest_break(valley, rest))
                    self.assertIn((road, widths[road]), wrong_widths(valley, {**rest, road: 10 ** 18}))
