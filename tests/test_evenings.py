import unittest

from feasted.errors import BadEvening, BadMany, BadValley, NoHouse, NoRoad
from feasted.evenings import (are_alike, at_table, feasts_of, first_alike, is_evening, part_of, parts, parts_behind)
from feasted.valleys import Valley
from tests.helpers import (ANYTHING, EVENING, EXAMPLE, LONE, TWO, all_evenings, big_evenings, keep_to_the_rules,
                           plain_feasts, plain_parts, refused, refused_in_order, row, small_valleys)

ROW = Valley(list("abcde"), [("a", "b"), ("b", "c"), ("c", "d"), ("d", "e")], [1] * 5)
ROW_EVENING = [("a", "b"), ("c", "d"), ("b", "c"), ("d", "e")]
ROW_ALIKE = [("c", "d"), ("a", "b"), ("b", "c"), ("d", "e")]


class Example(unittest.TestCase):
    def test_feasts(self):
        keep_to_the_rules(self, feasts_of, {"valley": EXAMPLE, "evening": EVENING}, {"a": 2, "b": 3, "c": 3, "d": 1})

    def test_parts(self):
        expected = {("a", "b"): ["a", "b", "c"], ("b", "c"): ["b", "c"], ("b", "d"): ["a", "b", "c", "d"]}
        keep_to_the_rules(self, parts, {"valley": EXAMPLE, "evening": EVENING}, expected)
        for road, part in expected.items():
            for one, other in [road, road[::-1]]:
                arguments = {"valley": EXAMPLE, "evening": EVENING, "one": one, "other": other}
                keep_to_the_rules(self, part_of, arguments, part)

    def test_parts_behind(self):
        expected = [[["a"], ["b"], ["c"], ["d"]], [["a"], ["b", "c"], ["d"]], [["a", "b", "c"], ["d"]], [list("abcd")]]
        for many, lots in enumerate(expected):
            keep_to_the_rules(self, parts_behind, {"valley": EXAMPLE, "evening": EVENING, "many": many}, lots)

    def test_at_table(self):
        expected = {"a": [list("abc"), list("abcd")], "b": [list("bc"), list("abc"), list("abcd")], "d": [list("abcd")]}
        for house, came in expected.items():
            keep_to_the_rules(self, at_table, {"valley": EXAMPLE, "evening": EVENING, "house": house}, came)

    def test_alike(self):
        for evening in all_evenings(EXAMPLE):
            arguments = {"valley": EXAMPLE, "evening": EVENING, "other": evening}
            keep_to_the_rules(self, are_alike, arguments, evening == EVENING)
        keep_to_the_rules(self, are_alike, {"valley": ROW, "evening": ROW_EVENING, "other": ROW_ALIKE}, True)
        keep_to_the_rules(self, first_alike, {"valley": ROW, "evening": ROW_ALIKE}, ROW_EVENING)
        keep_to_the_rules(self, first_alike, {"valley": EXAMPLE, "evening": EVENING}, EVENING)

    def test_told_as_the_valley_has_them(self):
        turned = [["c", "d"], ["b", "a"], ("c", "b"), ["e", "d"]]
        self.assertEqual(repr(first_alike(ROW, turned)), repr(ROW_EVENING))
        self.assertEqual(list(parts(ROW, turned)), ROW.roads())
        self.assertIs(are_alike(ROW, turned, ROW_EVENING), True)

    def test_one_house(self):
        self.assertIs(is_evening(LONE, []), True)
        self.assertIs(is_evening(LONE, ()), True)
        self.assertEqual((parts(LONE, []), parts_behind(LONE, [], 0), first_alike(LONE, [])), ({}, [["a"]], []))
        self.assertEqual((feasts_of(LONE, []), at_table(LONE, [], "a")), ({"a": 0}, []))
        self.assertIs(are_alike(LONE, [], ()), True)

    def test_order_of_houses(self):
        self.assertEqual(repr(feasts_of(TWO, [("b", "a")])), "{'b': 1, 'a': 1}")
        self.assertEqual(part_of(TWO, [["a", "b"]], "a", "b"), ["b", "a"])


class IsEvening(unittest.TestCase):
    def test_of_any_object(self):
        for thing in ANYTHING:
            self.assertIs(is_evening(EXAMPLE, thing), False)
            self.assertIs(is_evening(EXAMPLE, [("b", "c"), ("a", "b"), thing]), False)
            self.assertIs(is_evening(EXAMPLE, [("b", "c"), ("a", "b"), ("b", thing)]), False)
            self.assertIs(is_evening(EXAMPLE, [thing] * 3), False)
            if thing not in ([], ()):
                self.assertIs(is_evening(LONE, thing), False)

    def test_either_way_round(self):
        keep_to_the_rules(self, is_evening, {"valley": EXAMPLE, "thing": EVENING}, True)
        self.assertIs(is_evening(EXAMPLE, (["c", "b"], ("b", "a"), ["d", "b"])), True)

    def test_wrong_ones(self):
        wrong = [EVENING[:2], EVENING + EVENING[:1], [("b", "c"), ("a", "b"), ("c", "b")], ["bc", "ab", "bd"],
                 [("b", "c"), ("a", "b"), ("a", "d")], [("b", "c"), ("a", "b"), ("b", "d", "b")],
                 {road: 1 for road in EVENING}, EVENING * 1000]
        for thing in wrong:
            self.assertIs(is_evening(EXAMPLE, thing), False)


class Refused(unittest.TestCase):
    def test_valley(self):
        for thing in ANYTHING:
            if thing is EXAMPLE or thing is LONE:
                continue
            for call in [is_evening, parts, first_alike, feasts_of]:
                refused(self, BadValley, {"thing": thing}, lambda: call(thing, None))

    def test_evening(self):
        for thing in ANYTHING:
            for call in [parts, first_alike, feasts_of]:
                refused(self, BadEvening, {"evening": thing}, lambda: call(EXAMPLE, thing))
            refused(self, BadEvening, {"evening": thing}, lambda: are_alike(EXAMPLE, EVENING, thing))

    def test_many(self):
        for thing in ANYTHING:
            if thing is True or thing is False or thing not in (0, 1):
                refused(self, BadMany, {"many": thing}, lambda: parts_behind(EXAMPLE, EVENING, thing))
        refused(self, BadMany, {"many": 4}, lambda: parts_behind(EXAMPLE, EVENING, 4))
        refused(self, BadMany, {"many": 1}, lambda: parts_behind(LONE, [], 1))

    def test_house(self):
        for thing in ANYTHING:
            refused(self, NoHouse, {"house": thing}, lambda: at_table(EXAMPLE, EVENING, thing))
            refused(self, NoHouse, {"house": thing}, lambda: part_of(EXAMPLE, EVENING, "a", thing))

    def test_in_order(self):
        valley = (["valley"], [7], BadValley, {"thing": 7})
        evening = (["evening"], [8], BadEvening, {"evening": 8})
        house = (["house"], ["x"], NoHouse, {"house": "x"})
        good = {"valley": EXAMPLE, "evening": EVENING}
        refused_in_order(self, is_evening, {"valley": EXAMPLE, "thing": 1}, [valley])
        for call in [parts, first_alike, feasts_of]:
            refused_in_order(self, call, good, [valley, evening])
        refused_in_order(self, at_table, {**good, "house": "a"}, [valley, evening, house])
        refused_in_order(self, parts_behind, {**good, "many": 1},
                         [valley, evening, (["many"], [-1], BadMany, {"many": -1})])
        refused_in_order(self, are_alike, {**good, "other": EVENING},
                         [valley, evening, (["other"], [()], BadEvening, {"evening": ()})])
        roads = [(["one"], ["x"], NoHouse, {"house": "x"}), (["other"], ["y"], NoHouse, {"house": "y"})]
        refused_in_order(self, part_of, {**good, "one": "a", "other": "b"}, [valley, evening] + roads)
        refused(self, NoRoad, {"one": "a", "other": "c"}, lambda: part_of(EXAMPLE, EVENING, "a", "c"))
        refused(self, NoRoad, {"one": "a", "other": "a"}, lambda: part_of(EXAMPLE, EVENING, "a", "a"))


class AllEvenings(unittest.TestCase):
    def test_parts(self):
        for valley in small_valleys():
            for evening in all_evenings(valley):
                plain = plain_parts(valley, evening)
                self.assertEqual(repr(parts(valley, evening)), repr(plain))
                came = [plain[road] for road in evening]
                for road in evening:
                    self.assertEqual(part_of(valley, evening, road[1], road[0]), plain[road])
                self.assertEqual(repr(feasts_of(valley, evening)), repr(plain_feasts(valley, evening)))
                for house in valley.houses():
                    tables = [part for part in came if house in part]
                    self.assertEqual(at_table(valley, evening, house), tables)
                    self.assertTrue(all(set(part) < set(later) for part, later in zip(tables, tables[1:])))
                for part in came:
                    for other in came:
                        shared = set(part) & set(other)
                        self.assertIn(shared, [set(), set(part), set(other)])
                if came:
                    self.assertEqual(came[-1], valley.houses())

    def test_parts_behind(self):
        for valley in small_valleys():
            for evening in all_evenings(valley):
                came = [[house] for house in valley.houses()]
                for many in range(len(evening) + 1):
                    if many:
                        part = plain_parts(valley, evening)[evening[many - 1]]
                        came = [lot for lot in came if not set(lot) <= set(part)] + [part]
                    order = sorted(came, key=lambda lot: valley.houses().index(lot[0]))
                    self.assertEqual(parts_behind(valley, evening, many), order)

    def test_alike(self):
        for valley in small_valleys(4):
            for evening in all_evenings(valley):
                plain = plain_parts(valley, evening)
                alike = [other for other in all_evenings(valley) if plain_parts(valley, other) == plain]
                self.assertEqual(first_alike(valley, evening), alike[0])
                for other in all_evenings(valley):
                    self.assertIs(are_alike(valley, evening, other), other in alike)
                    behind = all(other.index(road) >= other.index(far) for road in other for far in other
                                 if set(far) <= set(plain[road]))
                    self.assertIs(behind, other in alike)

    def test_first_alike(self):
        for valley in small_valleys(6):
            first = {}
            for evening in all_evenings(valley):
                key = repr(plain_parts(valley, evening))
                self.assertEqual(first_alike(valley, evening), first.setdefault(key, evening))


class Sixty(unittest.TestCase):
    def test_sixty(self):
        for valley, evening in big_evenings():
            plain = plain_parts(valley, evening)
            self.assertEqual(parts(valley, evening), plain)
            self.assertEqual(feasts_of(valley, evening), plain_feasts(valley, evening))
            first = first_alike(valley, evening)
            self.assertEqual(parts(valley, first), plain)
            self.assertIs(are_alike(valley, first, evening), True)
            self.assertLessEqual([valley.roads().index(road) for road in first],
                                 [valley.roads().index(road) for road in evening])
            self.assertEqual(parts_behind(valley, evening, 59), [valley.houses()])
            self.assertEqual(len(parts_behind(valley, evening, 30)), 30)

    def test_row_of_sixty(self):
        valley = row(60)
        self.assertEqual(list(feasts_of(valley, valley.roads()).values()), [59] + list(range(59, 0, -1)))
        self.assertEqual(at_table(valley, valley.roads()[::-1], "h0"), [valley.houses()])
