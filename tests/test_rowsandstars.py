import unittest
from math import comb, factorial

from feasted.errors import BadMany, BadOften, BadValley
from feasted.rowsandstars import count_row, count_star, is_row, is_star, row_end
from feasted.unlikes import count_by_feasts, count_unlike
from feasted.valleys import Valley
from tests.helpers import (ANYTHING, EXAMPLE, LONE, TWO, alike_ones, keep_to_the_rules, plain_feasts, refused,
                           refused_in_order, row, small_valleys, star, tree)


class Forms(unittest.TestCase):
    def test_rows_and_stars(self):
        mixed = Valley(list("abcd"), [("d", "a"), ("b", "c"), ("c", "d")], [1, 2, 3, 4])
        for valley, in_row, in_star in [(EXAMPLE, False, True), (LONE, True, True), (TWO, True, True),
                                        (row(3), True, True), (row(4), True, False), (mixed, True, False),
                                        (row(60), True, False), (star(60, middle=31), False, True),
                                        (tree(9, 1), False, False)]:
            keep_to_the_rules(self, is_row, {"valley": valley}, in_row)
            keep_to_the_rules(self, is_star, {"valley": valley}, in_star)

    def test_no_valley(self):
        for thing in ANYTHING:
            if thing is not EXAMPLE and thing is not LONE:
                for call in [is_row, is_star]:
                    refused(self, BadValley, {"thing": thing}, lambda: call(thing))

    def test_small_ones(self):
        for valley in small_valleys(6):
            degrees = [sum(house in road for road in valley.roads()) for house in valley.houses()]
            self.assertIs(is_row(valley), max(degrees) <= 2)
            self.assertIs(is_star(valley), max(degrees) == len(valley.roads()))


class Counts(unittest.TestCase):
    def test_example(self):
        keep_to_the_rules(self, count_row, {"many": 5}, 14)
        keep_to_the_rules(self, count_star, {"many": 4}, 6)
        for often, many in enumerate([0, 5, 5, 3, 1, 0]):
            keep_to_the_rules(self, row_end, {"many": 5, "often": often}, many)

    def test_against_all_evenings(self):
        for many in range(1, 8):
            for valley, count in [(row(many), count_row), (star(many), count_star)]:
                unlike = [alike[0] for alike in alike_ones(valley)]
                self.assertEqual(count(many), len(unlike))
            lots = [alike[0] for alike in alike_ones(row(many))]
            for often in range(10):
                ends = [plain_feasts(row(many), evening)["h0"] for evening in lots]
                self.assertEqual(row_end(many, often), ends.count(often))

    def test_against_valleys_of_twelve(self):
        for many in range(1, 13):
            self.assertEqual((count_row(many), count_star(many)), (count_unlike(row(many)), count_unlike(star(many))))
            counts = count_by_feasts(row(many), f"h{many - 1}")
            self.assertEqual([row_end(many, often) for often in range(14)], [counts.get(often, 0) for often in range(14)])

    def test_of_a_star(self):
        for many in range(3, 9):
            valley = star(many, middle=1)
            self.assertEqual(count_by_feasts(valley, "h1"), {many - 1: factorial(many - 1)})
            self.assertEqual(count_by_feasts(valley, "h0"),
                             {often: factorial(many - 2) for often in range(1, many)})

    def test_three_hundred(self):
        self.assertEqual(count_row(300), comb(598, 299) // 300)
        self.assertEqual(count_star(300), factorial(299))
        self.assertEqual(sum(row_end(300, often) for often in range(301)), count_row(300))
        self.assertEqual([row_end(300, often) for often in (0, 1, 298, 299, 300, 10 ** 30)],
                         [0, count_row(299), 298, 1, 0, 0])
        self.assertEqual([row_end(1, often) for often in (0, 1, 2, 300)], [1, 0, 0, 0])
        self.assertEqual([row_end(2, often) for often in (0, 1, 2)], [0, 1, 0])

    def test_refused(self):
        for thing in ANYTHING:
            if isinstance(thing, bool) or not isinstance(thing, int) or thing < 1:
                refused(self, BadMany, {"many": thing}, lambda: count_row(thing))
                refused(self, BadMany, {"many": thing}, lambda: count_star(thing))
                refused(self, BadMany, {"many": thing}, lambda: row_end(thing, thing))
            if isinstance(thing, bool) or not isinstance(thing, int) or thing < 0:
                for many in [1, 5]:
                    refused(self, BadOften, {"often": thing}, lambda: row_end(many, thing))
        refused_in_order(self, row_end, {"many": 2, "often": 1},
                         [(["many"], [0], BadMany, {"many": 0}), (["often"], [-1], BadOften, {"often": -1})])
