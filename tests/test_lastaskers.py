import itertools
import unittest

from feasted.errors import BadEvening, BadValley
from feasted.halves import last_road
from feasted.lastaskers import beaten_by, run_asker
from feasted.refusals import BadAnswer, BadAsker
from tests.helpers import (ANYTHING, EVENING, EXAMPLE, LONE, TWO, all_evenings, big_evenings, plain_feasts, refused,
                           refused_in_order, row, small_valleys, star)
from tests.test_openers import NO_FUNCTIONS, Stop, never


def telling(answers, calls=None):
    """An asker that tells one thing after another, and keeps what it got."""
    def asker(known):
        if calls is not None:
            calls.append(known)
        return answers[len(known)]
    return asker


def knowing(valley, silent):
    """Asks all houses but one; what the others lack to the weight 1 is that one's."""
    others = [house for house in valley.houses() if house != silent]

    def asker(known):
        if len(known) < len(others):
            return others[len(known)]
        lack = 2 ** 100 - sum(2 ** (100 - feasts) for _, feasts in known)
        return last_road(valley, {**dict(known), silent: 101 - lack.bit_length()})
    return asker


class Example(unittest.TestCase):
    def test_run(self):
        for evening, often, is_right in [(EVENING, 1, True), ([("d", "b"), ("a", "b"), ("c", "b")], 3, False)]:
            for road in (("b", "d"), ("d", "b"), ["d", "b"]):
                calls = []
                told = run_asker(EXAMPLE, evening, telling(["d", road], calls))
                self.assertEqual(repr(told), repr((["d"], is_right)))
                self.assertEqual(repr(calls), repr([[], [("d", often)]]))
        self.assertEqual(repr(run_asker(asker=telling([("a", "b")]), evening=EVENING, valley=EXAMPLE)), repr(([], False)))
        calls = []
        told = run_asker(EXAMPLE, EVENING, telling(["c", "a", "d", "b", ("b", "d")], calls))
        self.assertEqual(repr(told), repr((["c", "a", "d", "b"], True)))
        self.assertEqual(repr(calls[-1]), repr([("c", 3), ("a", 2), ("d", 1), ("b", 3)]))

    def test_beaten(self):
        evening = [("a", "b"), ("b", "d"), ("b", "c")]
        self.assertEqual(repr(beaten_by(EXAMPLE, telling(["d", ("b", "d")]))), repr(evening))
        self.assertEqual(beaten_by(asker=telling([("c", "b")]), valley=EXAMPLE), [("a", "b"), ("b", "c"), ("b", "d")])
        self.assertIsNone(beaten_by(EXAMPLE, knowing(EXAMPLE, "a")))

    def test_one_and_two_houses(self):
        self.assertEqual(repr(run_asker(LONE, [], never)), repr(([], True)))
        self.assertIsNone(beaten_by(LONE, never))
        self.assertEqual(run_asker(TWO, [("a", "b")], telling([["b", "a"]])), ([], True))
        self.assertIsNone(beaten_by(TWO, telling(["a", "b", ("a", "b")])))


class Handed(unittest.TestCase):
    def test_lists_are_theirs(self):
        def spoiling(known):
            many = len(known)
            known.clear()
            known.append("spoilt")
            return ["c", "d", ("b", "d")][min(many, 2)]

        calls = []

        def keeping(known):
            calls.append(known)
            return "abcd"[len(known)] if len(known) < 4 else ("b", "d")

        self.assertEqual(run_asker(EXAMPLE, EVENING, keeping), (["a", "b", "c", "d"], True))
        self.assertEqual([len(known) for known in calls], [0, 1, 2, 3, 4])
        self.assertEqual(run_asker(EXAMPLE, EVENING, spoiling), (["c", "d"], True))

    def test_what_it_raises_comes_out(self):
        error = Stop()

        def raising(known):
            if known:
                raise error
            return "a"

        for call in (lambda: run_asker(EXAMPLE, EVENING, raising), lambda: beaten_by(EXAMPLE, raising)):
            with self.assertRaises(Stop) as caught:
                call()
            self.assertIs(caught.exception, error)


class Refused(unittest.TestCase):
    def test_in_order(self):
        valley = (["valley"], [7], BadValley, {"thing": 7})
        asker = (["asker"], ["f"], BadAsker, {"thing": "f"})
        refused_in_order(self, run_asker, {"valley": EXAMPLE, "evening": EVENING, "asker": telling([("a", "b")])}, [
            valley, (["evening"], ["x"], BadEvening, {"evening": "x"}), asker])
        refused_in_order(self, beaten_by, {"valley": EXAMPLE, "asker": telling([("a", "b")])}, [valley, asker])

    def test_asker(self):
        for thing in NO_FUNCTIONS:
            for each, evening in ((EXAMPLE, EVENING), (LONE, [])):
                refused(self, BadAsker, {"thing": thing}, lambda: run_asker(each, evening, thing))
                refused(self, BadAsker, {"thing": thing}, lambda: beaten_by(each, thing))
        for thing in ANYTHING:
            refused(self, BadEvening, {"evening": thing}, lambda: run_asker(EXAMPLE, thing, None))

    def test_answers(self):
        for thing in [*ANYTHING, "a", "x", ("a", "c"), ("a",), ["a"], ("a", "a"), [("a", "b")]]:
            calls = []
            refused(self, BadAnswer, {"thing": thing}, lambda: run_asker(EXAMPLE, EVENING, telling(["a", thing], calls)))
            self.assertEqual(len(calls), 2)
            refused(self, BadAnswer, {"thing": thing}, lambda: beaten_by(EXAMPLE, telling(["a", thing])))
            if thing != "a":
                refused(self, BadAnswer, {"thing": thing}, lambda: run_asker(EXAMPLE, EVENING, telling([thing])))
        for house in EXAMPLE.houses():
            refused(self, BadAnswer, {"thing": house},
                    lambda: run_asker(EXAMPLE, EVENING, telling(["c", "a", "d", "b", house])))


class AllEvenings(unittest.TestCase):
    def test_run(self):
        for valley in small_valleys(5):
            for evening in all_evenings(valley)[::3]:
                feasts = plain_feasts(valley, evening)
                for asked in itertools.permutations(valley.houses(), min(2, len(evening))):
                    for road in valley.roads():
                        calls = []
                        told = run_asker(valley, evening, telling([*asked, road[::-1]], calls))
                        self.assertEqual(told, (list(asked), road == evening[-1]))
                        self.assertEqual(calls, [[(house, feasts[house]) for house in asked[:many]]
                                                 for many in range(len(asked) + 1)])

    def test_beaten(self):
        for valley in small_valleys(5):
            evenings = all_evenings(valley)
            for house in valley.houses():
                for least in range(1, 5):
                    for road, far in itertools.product(valley.roads(), repeat=2):
                        self.guesses(valley, evenings, house, least, road, far)

    def guesses(self, valley, evenings, house, least, road, far):
        """One house is asked; the last road is far if it feasted that often at least, else road."""
        runs = []

        def asker(known):
            if not known:
                runs.append(known)
                return house
            return far if known[0][1] >= least else road

        beaten = [evening for evening in evenings
                  if evening[-1] != (far if plain_feasts_of(valley, evening, house) >= least else road)]
        self.assertEqual(beaten_by(valley, asker), beaten[0] if beaten else None)
        # No later evening is run.
        self.assertEqual(len(runs), evenings.index(beaten[0]) + 1 if beaten else len(evenings))

    def test_never_beaten(self):
        for valley in [*small_valleys(5), row(5), star(5), star(5, middle=4)]:
            for silent in valley.houses():
                self.assertIsNone(beaten_by(valley, knowing(valley, silent)))

    def test_answer_at_once(self):
        """Right by the first evening, it tells nothing by the second one."""
        runs = []

        def asker(known):
            runs.append(known)
            return ("b", "d") if len(runs) == 1 else None

        refused(self, BadAnswer, {"thing": None}, lambda: beaten_by(EXAMPLE, asker))
        self.assertEqual(len(runs), 2)


KNOWN = {}


def plain_feasts_of(valley, evening, house):
    key = tuple(valley.houses()), tuple(valley.roads()), tuple(evening)
    if key not in KNOWN:
        KNOWN[key] = plain_feasts(valley, evening)
    return KNOWN[key][house]


class Sixty(unittest.TestCase):
    def test_big(self):
        for valley, evening in big_evenings():
            asker = knowing(valley, valley.houses()[17])
            asked, is_right = run_asker(valley, evening, asker)
            self.assertEqual((len(asked), is_right), (59, True))
            self.assertEqual(run_asker(valley, evening, telling([evening[0]])), ([], False))
