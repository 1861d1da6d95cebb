import functools
import itertools
import random
import unittest

from feasted.bread import loaves
from feasted.errors import BadValley, NoHouse
from feasted.growths import growth_from, hungriest, is_growth, least_loaves, most_loaves, thriftiest
from feasted.valleys import Valley
from tests.helpers import (ANYTHING, EVENING, EXAMPLE, LONE, TWO, all_evenings, big_valleys, keep_to_the_rules, names_of,
                           plain_parts, refused, refused_in_order, row, small_valleys, star, tree)

HEADS = Valley(EXAMPLE.houses(), EXAMPLE.roads(), [4, 1, 2, 8])


def with_heads(valley, heads):
    return Valley(valley.houses(), valley.roads(), heads)


class Example(unittest.TestCase):
    def test_loaves(self):
        keep_to_the_rules(self, most_loaves, {"valley": HEADS}, 37)
        keep_to_the_rules(self, least_loaves, {"valley": HEADS}, 25)
        growth = [("b", "d"), ("a", "b"), ("b", "c")]
        keep_to_the_rules(self, growth_from, {"valley": HEADS, "house": "b"}, growth)
        keep_to_the_rules(self, hungriest, {"valley": HEADS}, growth)
        keep_to_the_rules(self, thriftiest, {"valley": HEADS}, EVENING)
        keep_to_the_rules(self, growth_from, {"valley": HEADS, "house": "c"}, [("b", "c"), ("b", "d"), ("a", "b")])
        keep_to_the_rules(self, growth_from, {"valley": HEADS, "house": "a"}, [("a", "b"), ("b", "d"), ("b", "c")])

    def test_is_growth(self):
        ab, bc, cd, de = row(5).roads()
        for thing in [[ab, bc, cd, de], [cd, de, bc, ab], [cd[::-1], list(bc), de, ab], (de, cd, bc, ab)]:
            keep_to_the_rules(self, is_growth, {"valley": row(5), "thing": thing}, True)
        for thing in [[ab, cd, bc, de], [ab, bc, de, cd], [ab, bc, cd], [ab, bc, cd, de, de], [ab, bc, cd, cd], "abcd"]:
            keep_to_the_rules(self, is_growth, {"valley": row(5), "thing": thing}, False)
        for roads in itertools.permutations(EXAMPLE.roads()):
            self.assertIs(is_growth(EXAMPLE, list(roads)), True)

    def test_one_and_two_houses(self):
        self.assertEqual((most_loaves(LONE), least_loaves(LONE), hungriest(LONE), thriftiest(LONE), growth_from(LONE, "a"),
                          is_growth(LONE, []), is_growth(LONE, ())), (0, 0, [], [], [], True, True))
        self.assertEqual((most_loaves(TWO), least_loaves(TWO), hungriest(TWO), thriftiest(TWO), growth_from(TWO, "b"),
                          is_growth(TWO, [("b", "a")])), (7, 7, [("a", "b")], [("a", "b")], [("a", "b")], True))

    def test_rich_ones_behind_poor_ones(self):
        # From h0 the way to h2 leads through h1, where nearly nobody lives.
        valley = Valley(names_of(4), [("h0", "h1"), ("h1", "h2"), ("h0", "h3")], [1, 1, 9, 4])
        self.assertEqual(growth_from(valley, "h0"), [("h0", "h1"), ("h1", "h2"), ("h0", "h3")])
        valley = with_heads(valley, [1, 1, 6, 4])
        self.assertEqual(growth_from(valley, "h0"), [("h0", "h3"), ("h0", "h1"), ("h1", "h2")])


class Refused(unittest.TestCase):
    def test_any_object(self):
        for thing in ANYTHING:
            self.assertIs(is_growth(EXAMPLE, thing), False)
            self.assertIs(is_growth(EXAMPLE, [("a", "b"), ("b", "c"), thing]), False)
            refused(self, NoHouse, {"house": thing}, lambda: growth_from(EXAMPLE, thing))
            refused(self, NoHouse, {"house": thing}, lambda: growth_from(LONE, thing))

    def test_in_order(self):
        valley = (["valley"], [7], BadValley, {"thing": 7})
        for function in (most_loaves, hungriest, least_loaves, thriftiest):
            refused_in_order(self, function, {"valley": EXAMPLE}, [valley])
        refused_in_order(self, is_growth, {"valley": EXAMPLE, "thing": []}, [valley])
        refused_in_order(self, growth_from, {"valley": EXAMPLE, "house": "a"}, [
            valley, (["house"], ["x"], NoHouse, {"house": "x"})])


def plain_growth(held, evening):
    return all((one in held[ahead]) != (other in held[ahead]) for ahead, (one, other) in zip(evening, evening[1:]))


def several_heads(many, times, seed):
    chance = random.Random(seed)
    yield [1] * many
    for time in range(times):
        yield [chance.choice([1, 2, 3, 5, 9, 50, 10 ** 15][:2 + time % 6]) for _ in range(many)]


class AllEvenings(unittest.TestCase):
    def test_all(self):
        for valley in small_valleys(6):
            held = [(evening, plain_parts(valley, evening)) for evening in all_evenings(valley)]
            growths = [plain_growth(parts, evening) for evening, parts in held]
            for (evening, _), expected in zip(held, growths):
                self.assertIs(is_growth(valley, evening), expected)
            for heads in several_heads(len(valley.houses()), 12, 4):
                self.held_against(with_heads(valley, heads), held, growths)

    def held_against(self, valley, held, growths):
        people = dict(zip(valley.houses(), valley.heads()))
        eaten = [sum(people[house] for part in parts.values() for house in part) for _, parts in held]
        self.assertEqual((most_loaves(valley), least_loaves(valley)), (max(eaten), min(eaten)))
        self.assertEqual(most_loaves(valley), max(many for many, grows in zip(eaten, growths) if grows))
        evenings = [evening for evening, _ in held]
        self.assertEqual(eaten[evenings.index(thriftiest(valley))], min(eaten))
        told = evenings.index(hungriest(valley))
        self.assertEqual((eaten[told], growths[told]), (max(eaten), True))
        for house in valley.houses():
            mine = [at for at, evening in enumerate(evenings) if growths[at] and house in (evening or [house])[0]]
            told = evenings.index(growth_from(valley, house))
            self.assertIn(told, mine)
            self.assertEqual(eaten[told], max(eaten[at] for at in mine))


def least_of(valley):
    """[19.3], lot by lot."""
    people = dict(zip(valley.houses(), valley.heads()))

    @functools.lru_cache(None)
    def least(lot):
        if len(lot) == 1:
            return 0
        inside = [road for road in valley.roads() if set(road) <= lot]
        return sum(people[house] for house in lot) + min(
            least(lot & frozenset(valley.side(*road))) + least(lot - frozenset(valley.side(*road))) for road in inside)

    return least(frozenset(valley.houses()))


def least_of_row(heads):
    """The same for a row, stretch by stretch."""
    ahead = [0, *itertools.accumulate(heads)]
    least = {(at, at + 1): 0 for at in range(len(heads))}
    for wide in range(2, len(heads) + 1):
        for at in range(len(heads) - wide + 1):
            least[at, at + wide] = ahead[at + wide] - ahead[at] + min(
                least[at, cut] + least[cut, at + wide] for cut in range(at + 1, at + wide))
    return least[0, len(heads)]


def most_of_row(heads):
    """The best growth of a row, stretch by stretch, each one house longer than one within."""
    ahead = [0, *itertools.accumulate(heads)]
    most = {(at, at + 1): 0 for at in range(len(heads))}
    for wide in range(2, len(heads) + 1):
        for at in range(len(heads) - wide + 1):
            most[at, at + wide] = ahead[at + wide] - ahead[at] + max(most[at, at + wide - 1], most[at + 1, at + wide])
    return most[0, len(heads)]


def most_of(valley, house):
    """The best growth from a house, lot by lot."""
    people = dict(zip(valley.houses(), valley.heads()))
    most = {frozenset([house]): 0}
    for _ in valley.roads():
        grown = {}
        for lot, so_far in most.items():
            for far in valley.houses():
                if far not in lot and lot & set(valley.beside(far)):
                    more = lot | {far}
                    eaten = so_far + sum(people[each] for each in more)
                    grown[more] = max(grown.get(more, 0), eaten)
        most = grown
    return most[frozenset(valley.houses())]


class Big(unittest.TestCase):
    def told(self, valley, evening, expected):
        self.assertEqual(loaves(valley, evening), expected)
        self.assertEqual(sorted(evening), sorted(valley.roads()))

    def test_least_rows(self):
        for many in (7, 25, 40):
            for heads in several_heads(many, 6, many):
                valley = row(many, heads)
                self.assertEqual(least_loaves(valley), least_of_row(heads))
                self.told(valley, thriftiest(valley), least_of_row(heads))

    def test_least_of_eight(self):
        for heads in several_heads(8, 6, 3):
            for valley in [star(8, heads), star(8, heads, 5), *[tree(8, seed, heads) for seed in range(6)]]:
                self.assertEqual(least_loaves(valley), least_of(valley))
                self.told(valley, thriftiest(valley), least_of(valley))

    def test_most_from_each_house(self):
        for heads in several_heads(9, 6, 8):
            for valley in [star(9, heads), row(9, heads), *[tree(9, seed, heads) for seed in range(4)]]:
                most = [most_of(valley, house) for house in valley.houses()]
                self.assertEqual(most_loaves(valley), max(most))
                for house, expected in zip(valley.houses(), most):
                    growth = growth_from(valley, house)
                    self.assertTrue(is_growth(valley, growth))
                    self.assertIn(house, growth[0])
                    self.told(valley, growth, expected)

    def test_most_of_sixty(self):
        for heads in several_heads(60, 4, 5):
            self.assertEqual(most_loaves(row(60, heads)), most_of_row(heads))
            rising = sorted(heads[1:], reverse=True)
            expected = sum(heads[0] + sum(rising[:many]) for many in range(1, 60))
            self.assertEqual(most_loaves(star(60, heads)), expected)
            for valley in big_valleys(60, heads)[2:]:
                most = most_loaves(valley)
                growth = hungriest(valley)
                self.assertTrue(is_growth(valley, growth))
                self.told(valley, growth, most)
                self.assertTrue(all(loaves(valley, growth_from(valley, house)) <= most for house in ("h0", "h7", "h59")))
