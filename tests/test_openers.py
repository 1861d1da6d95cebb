import unittest

from feasted.errors import BadFeasts, BadValley
from feasted.halves import feasts_break
from feasted.openers import opened_by, opened_for
from feasted.refusals import BadAnswer, BadOpener, NoEvening
from feasted.valleys import Valley
from tests.helpers import (ANYTHING, EVENING, EXAMPLE, LONE, TWO, all_evenings, alike_ones, big_evenings, frozen, named,
                           nearly, plain_feasts, plain_lots, plain_parts, refused, refused_in_order, small_valleys)

FEASTS = named([2, 3, 3, 1])
# Of the kinds that the document names.
NO_FUNCTIONS = [thing for thing in ANYTHING
                if thing is None or isinstance(thing, (int, str, list, tuple, dict, Valley))]


class Stop(Exception):
    """What an opener raises."""


def following(evening, calls=None):
    """An opener that opens the roads of an evening, and keeps what it got."""
    def opener(opened, more):
        if calls is not None:
            calls.append((opened, more))
        return evening[len(opened)]
    return opener


def never(*told):
    raise AssertionError(told)


class Example(unittest.TestCase):
    def test_by(self):
        calls = []

        def opener(opened, parts):
            calls.append((opened, parts))
            return [road for road in EXAMPLE.roads() if road not in opened][-1]

        evening = [("b", "d"), ("b", "c"), ("a", "b")]
        self.assertEqual(repr(opened_by(EXAMPLE, opener)), repr(evening))
        self.assertEqual(repr(calls), repr([
            ([], [["a"], ["b"], ["c"], ["d"]]), (evening[:1], [["a"], ["b", "d"], ["c"]]),
            (evening[:2], [["a"], ["b", "c", "d"]])]))
        self.assertEqual(opened_by(opener=opener, valley=EXAMPLE), evening)

    def test_for(self):
        calls = []

        def opener(opened, free):
            calls.append((opened, free))
            return free[0][::-1]

        self.assertEqual(repr(opened_for(EXAMPLE, FEASTS, opener)), repr(EVENING))
        self.assertEqual(repr(calls), repr([([], [("b", "c")]), (EVENING[:1], [("a", "b")]),
                                            (EVENING[:2], [("b", "d")])]))
        self.assertEqual(opened_for(opener=opener, feasts=FEASTS, valley=EXAMPLE), EVENING)

    def test_one_and_two_houses(self):
        self.assertEqual((opened_by(LONE, never), opened_for(LONE, {"a": 0}, never)), ([], []))
        self.assertEqual((opened_by(TWO, lambda opened, parts: ["b", "a"]),
                          opened_for(TWO, {"a": 1, "b": 1}, lambda opened, free: ("b", "a"))), ([("a", "b")], [("a", "b")]))


class Handed(unittest.TestCase):
    def test_lists_are_theirs(self):
        def spoiling(opened, more):
            road = EVENING[len(opened)]
            for inner in more:
                if isinstance(inner, list):
                    inner.clear()
            opened.append("spoilt")
            more.clear()
            return list(road)

        valley = Valley(EXAMPLE.houses(), EXAMPLE.roads(), [1] * 4)
        for _ in range(2):
            self.assertEqual(opened_by(valley, spoiling), EVENING)
            self.assertEqual(opened_for(valley, FEASTS, spoiling), EVENING)
        self.assertEqual(valley, EXAMPLE)

    def test_told_later_changed(self):
        road = ["c", "b"]
        told = opened_by(EXAMPLE, lambda opened, parts: road if not opened else EVENING[len(opened)])
        road.clear()
        self.assertEqual(repr(told), repr(EVENING))
        told.clear()
        self.assertEqual(opened_by(EXAMPLE, following(EVENING)), EVENING)

    def test_what_it_raises_comes_out(self):
        error = Stop()

        def raising(opened, more):
            if len(opened) == 1:
                raise error
            return "b", "c"

        for call in (lambda: opened_by(EXAMPLE, raising), lambda: opened_for(EXAMPLE, FEASTS, raising)):
            with self.assertRaises(Stop) as caught:
                call()
            self.assertIs(caught.exception, error)


class Refused(unittest.TestCase):
    def test_in_order(self):
        valley = (["valley"], [7], BadValley, {"thing": 7})
        opener = (["opener"], ["f"], BadOpener, {"thing": "f"})
        feasts = (["feasts"], ["x"], BadFeasts, {"feasts": "x"})
        refused_in_order(self, opened_by, {"valley": EXAMPLE, "opener": following(EVENING)}, [valley, opener])
        refused_in_order(self, opened_for, {"valley": EXAMPLE, "feasts": FEASTS, "opener": following(EVENING)}, [
            valley, feasts, opener])
        for numbers in ([2, 2, 2, 2], [2, 3, 3, 2]):
            refused(self, BadOpener, {"thing": 3}, lambda: opened_for(EXAMPLE, named(numbers), 3))

    def test_opener(self):
        for thing in NO_FUNCTIONS:
            for each, feasts in ((EXAMPLE, FEASTS), (LONE, {"a": 0}), (LONE, {"a": 1})):
                refused(self, BadOpener, {"thing": thing}, lambda: opened_by(each, thing))
                refused(self, BadOpener, {"thing": thing}, lambda: opened_for(each, feasts, thing))
        for thing in ANYTHING:
            refused(self, BadFeasts, {"feasts": thing}, lambda: opened_for(EXAMPLE, thing, None))

    def test_no_evening(self):
        for feasts in (named([2, 2, 2, 2]), named([1, 2, 3, 3]), named([2, 3, 3, 2]), named([0] * 4)):
            with self.assertRaises(NoEvening) as caught:
                opened_for(EXAMPLE, feasts, never)
            self.assertEqual(repr(vars(caught.exception)), repr({"broken": feasts_break(EXAMPLE, feasts)}))

    def test_answers(self):
        for thing in [*ANYTHING, ("b", "c"), ("c", "b"), ["b", "c"], ("a", "c"), ("d", "d"), "ab", {"a": "b"}]:
            answers = [("b", "c"), thing]
            calls = []
            refused(self, BadAnswer, {"thing": thing}, lambda: opened_by(EXAMPLE, following(answers, calls)))
            self.assertEqual(len(calls), 2)
            refused(self, BadAnswer, {"thing": thing}, lambda: opened_for(EXAMPLE, FEASTS, following(answers)))
            if thing not in (("b", "c"), ("c", "b"), ["b", "c"]):
                refused(self, BadAnswer, {"thing": thing}, lambda: opened_by(EXAMPLE, following([thing])))
        # A closed road, but none whose opening leads on to these feasts.
        for road in [("a", "b"), ("b", "d"), ["d", "b"]]:
            refused(self, BadAnswer, {"thing": road}, lambda: opened_for(EXAMPLE, FEASTS, following([road])))


class AllEvenings(unittest.TestCase):
    def test_by(self):
        for valley in small_valleys(5):
            for evening in all_evenings(valley):
                calls = []
                self.assertEqual(opened_by(valley, following([road[::-1] for road in evening], calls)), evening)
                expected = [(evening[:many], plain_lots(valley, evening[:many])) for many in range(len(evening))]
                self.assertEqual(repr(calls), repr(expected))

    def test_for(self):
        for valley in small_valleys(5):
            known = set()
            for alike in alike_ones(valley):
                feasts = plain_feasts(valley, alike[0])
                known.add(frozen(feasts))
                for evening in all_evenings(valley):
                    self.held_against(valley, feasts, evening, alike)
            for feasts in [book for key in known for book in nearly(dict(key), range(4)) if frozen(book) not in known]:
                with self.assertRaises(NoEvening):
                    opened_for(valley, feasts, never)

    def held_against(self, valley, feasts, evening, alike):
        """Roads are handed that lead on; an evening that is alike comes through, any other one does not."""
        calls = []
        try:
            told = opened_for(valley, feasts, following(evening, calls))
        except BadAnswer as refusal:
            self.assertNotIn(evening, alike)
            self.assertIs(refusal.thing, evening[len(calls) - 1])
            self.assertNotIn(evening[:len(calls)], [each[:len(calls)] for each in alike])
        else:
            self.assertEqual(told, evening)
            self.assertIn(evening, alike)
            self.assertEqual(len(calls), len(evening))
        for opened, free in calls:
            many = len(opened)
            self.assertEqual(opened, evening[:many])
            self.assertEqual(free, [road for road in valley.roads()
                                    if opened + [road] in [each[:many + 1] for each in alike]])


class Sixty(unittest.TestCase):
    def test_big(self):
        for valley, evening in big_evenings():
            feasts = plain_feasts(valley, evening)
            held = plain_parts(valley, evening)
            self.assertEqual(opened_by(valley, following(evening)), evening)
            self.assertEqual(opened_for(valley, feasts, following(evening)), evening)
            for at in (0, -1):
                told = opened_for(valley, feasts, lambda opened, free: free[at])
                self.assertEqual(plain_parts(valley, told), held)
