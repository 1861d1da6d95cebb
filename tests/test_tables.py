import unittest
from itertools import combinations, permutations

from feasted.errors import BadEvening, BadFeasts, BadMany, BadSome, BadTable, BadValley, NoHouse, NotThree
from feasted.evenings import feasts_of, first_alike
from feasted.tables import (common, evening_of_table, feasts_by_table, first_joined, joined_first, table_by_feasts,
                            table_clash, table_of, with_often)
from tests.helpers import (ANYTHING, EVENING, EXAMPLE, LONE, TWO, all_books, all_evenings, big_evenings, big_valleys,
                           first_ones, frozen, keep_to_the_rules, named, nearly, plain_feasts, plain_parts, plain_table,
                           refused, refused_in_order, small_valleys)

AB, BC, BD = EXAMPLE.roads()
AC, AD, CD = ("a", "c"), ("a", "d"), ("c", "d")
TABLE = {AB: 2, AC: 2, AD: 1, BC: 3, BD: 1, CD: 1}
BACK = [evening_of_table, table_clash, feasts_by_table]


def plain_clash(valley, table):
    """[10.3], word by word."""
    both = {}
    for (one, other), number in table.items():
        both[(one, other)] = both[(other, one)] = number
    for one, other in combinations(valley.houses(), 2):
        for third in valley.way(one, other)[1:-1]:
            two = [both[(one, third)], both[(third, other)]]
            if both[(one, other)] != min(two) or two[0] == two[1]:
                return "between", one, other, third
    for house in valley.houses():
        numbers = {both[(house, far)] for far in valley.houses() if far != house}
        if numbers != set(range(1, len(numbers) + 1)):
            return "row", house, 0 if 0 in numbers else min(set(range(1, max(numbers))) - numbers)
    return None


class Example(unittest.TestCase):
    def test_table(self):
        keep_to_the_rules(self, table_of, {"valley": EXAMPLE, "evening": EVENING}, TABLE)
        keep_to_the_rules(self, table_by_feasts, {"valley": EXAMPLE, "feasts": named([2, 3, 3, 1])}, TABLE)
        keep_to_the_rules(self, table_by_feasts, {"valley": EXAMPLE, "feasts": named([2, 2, 2, 2])}, None)
        keep_to_the_rules(self, evening_of_table, {"valley": EXAMPLE, "table": TABLE}, EVENING)
        keep_to_the_rules(self, table_clash, {"valley": EXAMPLE, "table": TABLE}, None)
        keep_to_the_rules(self, feasts_by_table, {"valley": EXAMPLE, "table": TABLE}, named([2, 3, 3, 1]))

    def test_common(self):
        for some, many in [("a", 2), ("b", 3), ("ca", 2), ("cab", 2), ("dcba", 1), ("db", 1)]:
            keep_to_the_rules(self, common, {"valley": EXAMPLE, "evening": EVENING, "some": list(some)}, many)

    def test_joined(self):
        both = {"valley": EXAMPLE, "evening": EVENING}
        for one, other, road in [("a", "c", AB), ("c", "a", AB), ("b", "c", BC), ("c", "d", BD), ("b", "b", None)]:
            keep_to_the_rules(self, first_joined, {**both, "one": one, "other": other}, road)
        for three, pair in [("abc", BC), ("abd", AB), ("acd", AC), ("bcd", BC)]:
            for one, other, third in permutations(three):
                keep_to_the_rules(self, joined_first, {**both, "one": one, "other": other, "third": third}, pair)

    def test_clashes(self):
        for changes, clash in [({AB: 3}, ("between", "a", "c", "b")), ({BC: 4}, ("row", "b", 3)),
                               ({AC: 1}, ("between", "a", "c", "b")), ({AD: 300}, ("between", "a", "d", "b")),
                               ({AD: 0, BD: 0, CD: 0}, ("row", "a", 0)), ({CD: 2}, ("between", "c", "d", "b")),
                               ({BC: 300}, ("row", "b", 3)), ({AD: 4, BD: 4, CD: 3}, ("between", "a", "d", "b")),
                               ({BD: 4, AD: 2, CD: 3}, ("row", "a", 1))]:
            arguments = {"valley": EXAMPLE, "table": {**TABLE, **changes}}
            keep_to_the_rules(self, table_clash, arguments, clash)
            keep_to_the_rules(self, evening_of_table, arguments, None)
            keep_to_the_rules(self, feasts_by_table, arguments, None)
        self.assertEqual(table_clash(EXAMPLE, {**TABLE, BC: 10 ** 30}), ("row", "b", 3))

    def test_with_often(self):
        for house, many, there in [("a", 2, list("abc")), ("a", 3, ["a"]), ("d", 1, list("abcd")), ("c", 3, ["b", "c"]),
                                   ("d", 2, ["d"]), ("b", 300, ["b"])]:
            arguments = {"valley": EXAMPLE, "table": TABLE, "house": house, "many": many}
            keep_to_the_rules(self, with_often, arguments, there)

    def test_one_and_two_houses(self):
        self.assertEqual((common(LONE, [], ["a"]), table_of(LONE, []), first_joined(LONE, [], "a", "a")), (0, {}, None))
        self.assertEqual([call(LONE, {}) for call in BACK], [[], None, {"a": 0}])
        self.assertEqual((with_often(LONE, {}, "a", 1), table_by_feasts(LONE, {"a": 0})), (["a"], {}))
        self.assertEqual(table_of(TWO, [("a", "b")]), {("b", "a"): 1})
        self.assertEqual(repr([call(TWO, {("b", "a"): 1}) for call in BACK]), "[[('a', 'b')], None, {'b': 1, 'a': 1}]")
        self.assertEqual(table_clash(TWO, {("b", "a"): 0}), ("row", "b", 0))
        self.assertEqual(table_clash(TWO, {("b", "a"): 2}), ("row", "b", 1))
        self.assertEqual(with_often(TWO, {("b", "a"): 1}, "a", 1), ["b", "a"])


class Refused(unittest.TestCase):
    def test_some(self):
        for thing in ANYTHING + ["abcd"]:
            if not isinstance(thing, (list, tuple)) or len(thing) == 0:
                refused(self, BadSome, {"index": 0}, lambda: common(EXAMPLE, EVENING, thing))
            refused(self, BadSome, {"index": 1}, lambda: common(EXAMPLE, EVENING, ["d", thing, "d"]))
        refused(self, BadSome, {"index": 2}, lambda: common(EXAMPLE, EVENING, ("d", "a", "d")))

    def test_houses(self):
        for thing in ANYTHING:
            refused(self, NoHouse, {"house": thing}, lambda: first_joined(EXAMPLE, EVENING, thing, None))
            refused(self, NoHouse, {"house": thing}, lambda: first_joined(EXAMPLE, EVENING, "a", thing))
            refused(self, NoHouse, {"house": thing}, lambda: joined_first(EXAMPLE, EVENING, thing, thing, thing))
            refused(self, NoHouse, {"house": thing}, lambda: joined_first(EXAMPLE, EVENING, "a", thing, "a"))
            refused(self, NoHouse, {"house": thing}, lambda: joined_first(EXAMPLE, EVENING, "a", "a", thing))
            refused(self, NoHouse, {"house": thing}, lambda: with_often(EXAMPLE, TABLE, thing, 0))

    def test_not_three(self):
        for one, other, third in ["aab", "aba", "baa", "ddd"]:
            kept = {"one": one, "other": other, "third": third}
            refused(self, NotThree, kept, lambda: joined_first(EXAMPLE, EVENING, one, other, third))

    def test_many(self):
        for thing in ANYTHING:
            if thing is True or not isinstance(thing, int) or thing < 1:
                refused(self, BadMany, {"many": thing}, lambda: with_often(EXAMPLE, TABLE, "a", thing))

    def test_table(self):
        turned = {("b", "a") if pair == AB else pair: TABLE[pair] for pair in TABLE}
        short = {pair: TABLE[pair] for pair in TABLE if pair != AC}
        wrong = [turned, short, {**TABLE, ("b", "a"): 2}, {**TABLE, ("a", "a"): 2}, {**short, "ac": 2}]
        wrong += [{**TABLE, AC: thing} for thing in [-1, True, "2", [2], None]]
        for table in wrong + ANYTHING:
            for call in BACK:
                refused(self, BadTable, {"table": table}, lambda: call(EXAMPLE, table))
            refused(self, BadTable, {"table": table}, lambda: with_often(EXAMPLE, table, None, None))
        refused(self, BadTable, {"table": TABLE}, lambda: table_clash(LONE, TABLE))

    def test_in_order(self):
        valley = (["valley"], [7], BadValley, {"thing": 7})
        evening = (["evening"], [()], BadEvening, {"evening": ()})
        one = (["one"], ["x"], NoHouse, {"house": "x"})
        other = (["other"], ["y"], NoHouse, {"house": "y"})
        third = (["third"], ["z"], NoHouse, {"house": "z"})
        table = (["table"], [()], BadTable, {"table": ()})
        good = {"valley": EXAMPLE, "evening": EVENING}
        refused_in_order(self, table_of, good, [valley, evening])
        refused_in_order(self, common, {**good, "some": ["a"]},
                         [valley, evening, (["some"], [[]], BadSome, {"index": 0})])
        refused_in_order(self, first_joined, {**good, "one": "a", "other": "b"}, [valley, evening, one, other])
        refused_in_order(self, joined_first, {**good, "one": "a", "other": "b", "third": "c"},
                         [valley, evening, one, other, third])
        for call in BACK:
            refused_in_order(self, call, {"valley": EXAMPLE, "table": TABLE}, [valley, table])
        refused_in_order(self, with_often, {"valley": EXAMPLE, "table": TABLE, "house": "a", "many": 1},
                         [valley, table, (["house"], ["x"], NoHouse, {"house": "x"}),
                          (["many"], [0], BadMany, {"many": 0})])
        refused_in_order(self, table_by_feasts, {"valley": EXAMPLE, "feasts": named([2, 3, 3, 1])},
                         [valley, (["feasts"], [()], BadFeasts, {"feasts": ()})])


class AllEvenings(unittest.TestCase):
    def test_tables(self):
        for valley in small_valleys(6):
            for evening in all_evenings(valley)[::2]:
                self.assertEqual(repr(table_of(valley, evening)), repr(plain_table(valley, evening)))

    def test_common(self):
        for valley in small_valleys(5):
            for evening in all_evenings(valley):
                table, held = plain_table(valley, evening), plain_parts(valley, evening)
                for many in range(1, len(valley.houses()) + 1):
                    for some in combinations(valley.houses(), many):
                        number = common(valley, evening, list(some)[::-1])
                        self.assertEqual(number, sum(set(some) <= set(part) for part in held.values()))
                        if many == 1:
                            self.assertEqual(number, feasts_of(valley, evening)[some[0]])
                        else:
                            self.assertEqual(number, min(table[two] for two in combinations(some, 2)))

    def test_first_joined(self):
        for valley in small_valleys(5):
            for evening in all_evenings(valley):
                held, table = plain_parts(valley, evening), plain_table(valley, evening)
                for one, other in combinations(valley.houses(), 2):
                    road = [road for road in evening if one in held[road] and other in held[road]][0]
                    self.assertEqual(first_joined(valley, evening, one, other), road)
                    self.assertEqual(first_joined(valley, evening, other, one), road)
                    way = valley.way(one, other)
                    on_it = [far for far in evening if far[0] in way and far[1] in way]
                    self.assertEqual(road, on_it[-1])
                    self.assertEqual(table[(one, other)], common(valley, evening, road))

    def test_three(self):
        for valley in small_valleys(5):
            for evening in all_evenings(valley):
                table, held = plain_table(valley, evening), plain_parts(valley, evening)
                for three in combinations(valley.houses(), 3):
                    numbers = sorted(table[two] for two in combinations(three, 2))
                    self.assertTrue(numbers[0] == numbers[1] < numbers[2])
                    pair = joined_first(valley, evening, three[2], three[0], three[1])
                    self.assertEqual(table[pair], numbers[2])
                    came = [[house for house in three if house in held[road]] for road in evening]
                    self.assertEqual(list(pair), [some for some in came if len(some) > 1][0])

    def test_with_often(self):
        for valley in small_valleys(5):
            for evening in all_evenings(valley)[::2]:
                table, held = plain_table(valley, evening), plain_parts(valley, evening)
                for house in valley.houses():
                    for many in range(1, len(valley.houses()) + 2):
                        there = with_often(valley, table, house, many)
                        self.assertEqual(there, [far for far in valley.houses() if far == house
                                                 or table.get((far, house), table.get((house, far), 0)) >= many])
                        self.assertTrue(there == [house] or there in held.values())


class AllTables(unittest.TestCase):
    def held_against(self, valley, table, first):
        evening = first.get(frozen(table))
        self.assertEqual(evening_of_table(valley, table), evening)
        clash = table_clash(valley, table)
        self.assertEqual(clash, plain_clash(valley, table))
        self.assertNotEqual(evening is None, clash is None)
        feasts = None if evening is None else plain_feasts(valley, evening)
        self.assertEqual(repr(feasts_by_table(valley, table)), repr(feasts))
        if evening is not None:
            rows = {house: [table[pair] for pair in table if house in pair] for house in valley.houses()}
            self.assertEqual(feasts, {house: max(rows[house] + [0]) for house in rows})

    def test_up_to_four_houses(self):
        for valley in small_valleys(4):
            first = first_ones(valley, plain_table)
            for table in all_books(list(combinations(valley.houses(), 2)), range(5 if len(valley.houses()) < 4 else 4)):
                self.held_against(valley, table, first)

    def test_near_to_evenings(self):
        for valley in small_valleys(6):
            first = first_ones(valley, plain_table)
            self.assertEqual(sorted(first.values()), sorted(first_ones(valley, plain_parts).values()))
            for key in list(first)[::2]:
                for table in nearly(dict(key), [0, 1, 2, 3, 4, 6]):
                    self.held_against(valley, table, first)

    def test_all_of_the_roads(self):
        """Tables with no clash of the first kind, and some with: the least numbers of the roads on the way."""
        for valley in small_valleys(5):
            first = first_ones(valley, plain_table)
            for numbers in all_books(valley.roads(), range(len(valley.houses()) + 1)):
                table = {}
                for one, other in combinations(valley.houses(), 2):
                    way = valley.way(one, other)
                    table[(one, other)] = min(numbers[road] for road in numbers if road[0] in way and road[1] in way)
                self.held_against(valley, table, first)

    def test_by_feasts(self):
        for valley in small_valleys(5):
            first = first_ones(valley, plain_feasts)
            for feasts in list(all_books(valley.houses(), range(5)))[:: 1 + len(valley.houses())]:
                evening = first.get(frozen(feasts))
                table = None if evening is None else plain_table(valley, evening)
                self.assertEqual(repr(table_by_feasts(valley, feasts)), repr(table))


class Thirty(unittest.TestCase):
    def test_thirty(self):
        for valley, evening in big_evenings(30):
            table = table_of(valley, evening)
            feasts = feasts_of(valley, evening)
            houses = valley.houses()
            self.assertEqual(table, plain_table(valley, evening))
            self.assertEqual(evening_of_table(valley, table), first_alike(valley, evening))
            self.assertIsNone(table_clash(valley, table))
            self.assertEqual(feasts_by_table(valley, table), feasts)
            self.assertEqual(table_by_feasts(valley, feasts), table)
            self.assertEqual(common(valley, evening, houses[::-1]), 1)
            self.assertEqual(with_often(valley, table, houses[3], 1), houses)
            for pair in list(table)[::100]:
                self.assertIsNotNone(table_clash(valley, {**table, pair: 300}))
                part = plain_parts(valley, evening)[first_joined(valley, evening, *pair)]
                self.assertLessEqual(set(pair), set(part))

    def test_greatest_numbers(self):
        for valley in big_valleys(30):
            table = {pair: 300 for pair in combinations(valley.houses(), 2)}
            self.assertEqual(table_clash(valley, table), plain_clash(valley, table))
            self.assertIsNone(evening_of_table(valley, table))
