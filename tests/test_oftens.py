import unittest
from fractions import Fraction

from feasted.desks import Desk
from feasted.errors import BadChooser, BadNumber, BadValley, FeastError, NoHouse
from feasted.means import mean_feasts
from feasted.oftens import chances_feasts, drawn_evening
from feasted.refusals import BadText
from tests.helpers import (ANYTHING, EXAMPLE, LONE, TWO, all_evenings, big_valleys, keep_to_the_rules, plain_feasts,
                           refused, refused_in_order, row, share, small_valleys, star, tree)


def multiplied(one, other):
    """Of polynomials in t and x: dicts from both powers to what they are taken times."""
    found = {}
    for (t, x), many in one.items():
        for (more_t, more_x), more in other.items():
            found[(t + more_t, x + more_x)] = found.get((t + more_t, x + more_x), 0) + many * more
    return found


def seen_from(valley, house, nearer):
    """F of [12.4], word by word."""
    found = {(0, 0): Fraction(1)}
    for far in valley.beside(house):
        if far != nearer:
            inner = seen_from(valley, far, house)
            factor = {(t + 1, x): many for (t, x), many in inner.items()}
            for (t, x), many in inner.items():
                # x times the integral from t to 1 of many * t ** power.
                factor[(0, x + 1)] = factor.get((0, x + 1), 0) + many / (t + 1)
                factor[(t + 1, x + 1)] = factor.get((t + 1, x + 1), 0) - many / (t + 1)
            found = multiplied(found, factor)
    return found


def plain_chances(valley, house):
    told = {x: many for (t, x), many in seen_from(valley, house, None).items() if t == 0 and many != 0}
    return {x: (told[x].numerator, told[x].denominator) for x in sorted(told)}


class Chances(unittest.TestCase):
    def test_example(self):
        thirds = {1: (1, 3), 2: (1, 3), 3: (1, 3)}
        for house, chances in [("a", thirds), ("b", {3: (1, 1)}), ("c", thirds), ("d", thirds)]:
            keep_to_the_rules(self, chances_feasts, {"valley": EXAMPLE, "house": house}, chances)
        self.assertEqual([chances_feasts(LONE, "a"), chances_feasts(TWO, "a"), chances_feasts(TWO, "b")],
                         [{0: (1, 1)}, {1: (1, 1)}, {1: (1, 1)}])

    def test_refused(self):
        refused_in_order(self, chances_feasts, {"valley": EXAMPLE, "house": "a"},
                         [(["valley"], [7], BadValley, {"thing": 7}), (["house"], ["x"], NoHouse, {"house": "x"})])
        for thing in ANYTHING:
            refused(self, NoHouse, {"house": thing}, lambda: chances_feasts(EXAMPLE, thing))

    def test_all_evenings(self):
        for valley in small_valleys(6):
            feasts = [plain_feasts(valley, evening) for evening in all_evenings(valley)]
            for house in valley.houses():
                numbers = sorted(book[house] for book in feasts)
                chances = {number: share(numbers.count(number), len(numbers)) for number in numbers}
                self.assertEqual(repr(chances_feasts(valley, house)), repr(chances))
                self.assertEqual(plain_chances(valley, house), chances)

    def test_sixteen_houses(self):
        for valley in [row(16), star(16), *[tree(16, seed) for seed in range(4)]]:
            for house in valley.houses()[::5]:
                chances = chances_feasts(valley, house)
                self.assertEqual(repr(chances), repr(plain_chances(valley, house)))
                self.assertEqual(sum(Fraction(*each) for each in chances.values()), 1)
                average = sum(number * Fraction(*chances[number]) for number in chances)
                self.assertEqual(mean_feasts(valley, house), (average.numerator, average.denominator))

    def test_somewhat_beyond(self):
        for valley in big_valleys(24):
            house = valley.houses()[3]
            self.assertEqual(chances_feasts(valley, house), plain_chances(valley, house))


class Drawn(unittest.TestCase):
    def drawn(self, valley, answers):
        """By these answers, one behind another: the evening, and by what each was asked for."""
        asked = []

        def chooser(*many):
            asked.append(many)
            return answers[len(asked) - 1]

        return drawn_evening(valley, chooser), asked

    def test_each_opening_is_asked_for(self):
        ab, bc, bd = EXAMPLE.roads()
        for answers, evening in [([0, 0, 0], [ab, bc, bd]), ([2, 1, 0], [bd, bc, ab]), ([1, 0, 0], [bc, ab, bd]),
                                 ([0, 1, 0], [ab, bd, bc])]:
            self.assertEqual(repr(self.drawn(EXAMPLE, answers)), repr((evening, [(3,), (2,), (1,)])))
        self.assertEqual(self.drawn(LONE, []), ([], []))
        self.assertEqual(self.drawn(TWO, [0]), ([("a", "b")], [(1,)]))
        self.assertEqual(drawn_evening(valley=EXAMPLE, chooser=lambda many: many - 1), [bd, bc, ab])
        roads = row(60).roads()
        self.assertEqual(drawn_evening(row(60), lambda many: many // 2)[:3], [roads[29], roads[30], roads[28]])

    def test_each_evening_can_be_drawn(self):
        for valley in small_valleys(5):
            for evening in all_evenings(valley):
                left, answers = valley.roads(), []
                for road in evening:
                    answers.append(left.index(road))
                    left.remove(road)
                self.assertEqual(self.drawn(valley, answers)[0], evening)

    def test_any_other_answer(self):
        for thing in ANYTHING + [3, 10 ** 30]:
            if not (isinstance(thing, int) and not isinstance(thing, bool) and 0 <= thing < 3):
                asked = []
                refused(self, BadNumber, {"number": thing},
                        lambda: drawn_evening(EXAMPLE, lambda many: (asked.append(many), thing)[1]))
                self.assertEqual(asked, [3])
        asked = []
        refused(self, BadNumber, {"number": 1}, lambda: drawn_evening(EXAMPLE, lambda many: (asked.append(many), 1)[1]))
        self.assertEqual(asked, [3, 2, 1])

    def test_no_chooser(self):
        things = [thing for thing in ANYTHING if not callable(thing)]
        for thing in things + [Desk(LONE), FeastError(), BadText(3), BadNumber(1), [lambda many: 0]]:
            for valley in [EXAMPLE, LONE]:
                refused(self, BadChooser, {"thing": thing}, lambda: drawn_evening(valley, thing))
        refused_in_order(self, drawn_evening, {"valley": EXAMPLE, "chooser": lambda many: 0},
                         [(["valley"], [7], BadValley, {"thing": 7}), (["chooser"], [8], BadChooser, {"thing": 8})])

    def test_what_it_raises_comes_out(self):
        class Boom(Exception):
            pass

        def chooser(many):
            if many < 3:
                raise Boom()
            return 0

        self.assertRaises(Boom, drawn_evening, EXAMPLE, chooser)
        self.assertRaises(ZeroDivisionError, drawn_evening, EXAMPLE, lambda many: 1 // 0)
        self.assertEqual(drawn_evening(LONE, chooser), [])
