import itertools
import random
import unittest

from feasted.desks import Desk
from feasted.errors import BadValley, FeastError, NoHouse, NoRoad
from feasted.halves import feasts_break
from feasted.refusals import (BadDeed, BadGoal, BadQuestion, IsHouse, IsOpen, IsWatched, NoCount, NotWatched,
                              WouldChange)
from feasted.valleys import Valley
from tests.helpers import (ANYTHING, EXAMPLE, LONE, TWO, all_evenings, frozen, named, nearly, plain_feasts, plain_parts,
                           refused, row, small_valleys, star, tree)


def begun(valley, *deeds):
    desk = Desk(valley)
    for deed in deeds:
        desk.do(deed)
    return desk


def opened_so(valley, roads):
    return begun(valley, *[("open", *road) for road in roads])


def seen(desk):
    """All that a desk tells, but for what can be done again."""
    valley = desk.valley()
    return [valley.houses(), valley.roads(), valley.heads(), desk.opened(), desk.watched(), desk.count(), desk.deeds(),
            desk.free_roads()]


def to_come(desk):
    """The deeds that can be done again."""
    other = desk.copy()
    deeds = []
    while True:
        deed = other.again()
        if deed is None:
            return deeds
        deeds.append(deed)


def all_questions(valley):
    houses = valley.houses()
    found = [("open",)]
    found += [(word, house) for word in ("feasts", "houses", "people") for house in houses]
    return found + [(word, *two) for word in ("common", "joined") for two in itertools.permutations(houses, 2)]


def plain_lot(houses, opened, house):
    reached = {house}
    for _ in houses:
        for road in opened:
            if reached & set(road):
                reached |= set(road)
    return reached


def plain_answer(valley, opened, question):
    """[22.4], word by word; opened are the open roads, as they were opened."""
    houses, word = valley.houses(), question[0]
    if word == "open":
        return len(opened)
    if word in ("feasts", "common"):
        lots = [plain_lot(houses, opened[:many + 1], opened[many][0]) for many in range(len(opened))]
        return sum(set(question[1:]) <= lot for lot in lots)
    lot = plain_lot(houses, opened, question[1])
    if word == "joined":
        return question[2] in lot
    people = dict(zip(houses, valley.heads()))
    return len(lot) if word == "houses" else sum(people[house] for house in lot)


def would_change(test, desk, question, deed):
    with test.assertRaises(WouldChange) as caught:
        desk.do(deed)
    test.assertEqual(repr(caught.exception.question), repr(question))
    test.assertEqual(set(vars(caught.exception)), {"question"})


class Example(unittest.TestCase):
    def test_example(self):
        desk = Desk(EXAMPLE)
        self.assertEqual((desk.do(("open", "c", "b")), desk.do(("open", "a", "b"))), ([], []))
        self.assertEqual(repr(desk.opened()), repr([("b", "c"), ("a", "b")]))
        self.assertEqual((desk.answer(("feasts", "b")), desk.answer(("common", "a", "c")), desk.answer(("people", "d"))),
                         (2, 1, 1))
        refused(self, IsOpen, {"one": "b", "other": "c"}, lambda: desk.do(("open", "b", "c")))
        self.assertEqual(repr(desk.way_to(named([2, 3, 3, 1]))), repr([("b", "d")]))
        self.assertIsNone(desk.goal_fault(named([2, 3, 3, 1])))
        self.assertEqual(repr(desk.goal_fault(named([3, 3, 2, 1]))), repr(("road", "b", "c")))
        self.assertIsNone(desk.way_to(named([3, 3, 2, 1])))
        self.assertEqual(desk.free_roads(), [("b", "d")])
        self.assertEqual(desk.do(("hold", ("houses", "d"))), [])
        self.assertEqual(desk.free_roads(), [])
        self.assertEqual(desk.do(("build", "e", 2, "d")), [])
        would_change(self, desk, ("houses", "d"), ("open", "d", "e"))
        self.assertEqual(desk.would(("open", "d", "e")), [(("houses", "d"), 1, 2)])
        self.assertEqual((desk.do(("free", ("houses", "d"))), desk.do(("open", "d", "e"))), ([], []))
        self.assertEqual(desk.answer(("people", "d")), 3)
        self.assertEqual(desk.valley(), Valley(list("abcde"), EXAMPLE.roads() + [("d", "e")], [1, 1, 1, 1, 2]))
        self.assertEqual(desk.opened(), [("b", "c"), ("a", "b"), ("d", "e")])
        self.assertEqual(desk.way_to(named([2, 3, 3, 2, 2])), [("b", "d")])

    def test_begin(self):
        for valley in [EXAMPLE, LONE, TWO]:
            desk = Desk(valley=valley)
            self.assertEqual([desk.valley(), desk.opened(), desk.watched(), desk.count(), desk.deeds(), desk.undo(),
                              desk.again()], [valley, [], [], 0, [], None, None])
            self.assertEqual(desk.free_roads(), valley.roads())
        self.assertEqual((Desk(LONE).way_to({"a": 0}), Desk(LONE).goal_fault({"a": 0})), ([], None))
        self.assertEqual((Desk(LONE).way_to({"a": 1}), Desk(LONE).goal_fault({"a": 1})),
                         (None, ("break", ("sum", (1, 2)))))
        self.assertEqual((Desk(TWO).answer(("people", "b")), begun(TWO, ("open", "b", "a")).answer(("people", "b"))),
                         (3, 7))

    def test_no_valley(self):
        for thing in ANYTHING + [Desk(LONE)]:
            if thing is not EXAMPLE and thing is not LONE:
                refused(self, BadValley, {"thing": thing}, lambda: Desk(thing))

    def test_parameters_by_name(self):
        desk = Desk(valley=EXAMPLE)
        self.assertEqual(desk.do(deed=("open", "a", "b")), [])
        self.assertEqual(desk.would(deed=("open", "c", "b")), [])
        self.assertIs(desk.is_question(thing=("open",)), True)
        self.assertEqual(desk.answer(question=("open",)), 1)
        self.assertIsNone(desk.way_to(goal=named([1, 3, 3, 2])))
        self.assertEqual(desk.goal_fault(goal=named([1, 3, 3, 2])), ("road", "a", "b"))
        self.assertEqual(desk.at(number=0).count(), 0)
        self.assertEqual(desk.trial(work=lambda there: there.count()), 1)


class Questions(unittest.TestCase):
    def test_which_are(self):
        desk = begun(EXAMPLE, ("build", "e", 3, "a"))
        for question in all_questions(desk.valley()):
            self.assertIs(desk.is_question(question), True)
            self.assertIs(desk.is_question(list(question)), True)
        desk.undo()
        for thing in ANYTHING + WRONG_QUESTIONS:
            self.assertIs(desk.is_question(thing), False)
            refused(self, BadQuestion, {"thing": thing}, lambda: desk.answer(thing))
            for word in ["watch", "hold", "free"]:
                for deed in [(word, thing), [word, thing]]:
                    refused(self, BadQuestion, {"thing": thing}, lambda: desk.do(deed))
                    refused(self, BadQuestion, {"thing": thing}, lambda: desk.would(deed))
        self.assertEqual(desk.count(), 0)

    def test_answers(self):
        for valley in small_valleys(5):
            for evening in all_evenings(valley)[::2]:
                for many in range(len(evening) + 1):
                    desk = opened_so(valley, evening[:many])
                    for question in all_questions(valley)[::3]:
                        answer = desk.answer(question)
                        self.assertEqual(repr(answer), repr(plain_answer(valley, evening[:many], question)))
                        self.assertEqual(repr(desk.answer(list(question))), repr(answer))

    def test_houses_with_the_names_of_words(self):
        valley = Valley(["open", "hold", "feasts"], [("open", "hold"), ("feasts", "hold")], [1, 2, 4])
        desk = begun(valley, ("hold", ("joined", "open", "feasts")), ("open", "open", "hold"), ("watch", ("open",)))
        for question in all_questions(valley):
            self.assertEqual(desk.answer(question), plain_answer(valley, [("open", "hold")], question))
        self.assertEqual(desk.free_roads(), [])
        self.assertEqual(desk.do(("build", "build", 8, "open")), [])
        self.assertEqual(desk.do(("open", "build", "open")), [(("open",), 1, 2)])

    def test_two_that_differ_in_any_part_are_two(self):
        desk = Desk(EXAMPLE)
        for question in [("common", "a", "b"), ("common", "b", "a"), ("joined", "b", "a"), ("joined", "a", "b")]:
            self.assertEqual(desk.do(("watch", question)), [])
        self.assertEqual(desk.do(("open", "a", "b")), [
            (("common", "a", "b"), 0, 1), (("common", "b", "a"), 0, 1), (("joined", "b", "a"), False, True),
            (("joined", "a", "b"), False, True)])


WRONG_QUESTIONS = [("feasts",), ("feasts", "e"), ("feasts", "a", "b"), ("common", "a"), ("common", "a", "a"),
                   ("joined", "a", "e"), ("joined", "d", "d"), ("open", "a"), ("open", "a", "b"), "open", ["opened"],
                   ("a",), ("Feasts", "a"), (["feasts"], "a"), ("feasts", ["a"]), ("people", {}), ("common", "a", {}),
                   (EXAMPLE,), (None,), ({}, "a"), ("common", EXAMPLE, EXAMPLE), ("houses", "a", None), (True, "a")]


class Deeds(unittest.TestCase):
    def test_no_deed(self):
        desk = Desk(EXAMPLE)
        wrong = [("open",), ("open", "a"), ("open", "a", "b", "c"), ("open", "A", "b"), ("open", "a", 1),
                 ("open", ("a", "b")), ("open", "a", "abcdefghi"), ("open", "", "b"), ("open", ["a"], "b"),
                 ("build", "e", 1), ("build", "e", 0, "a"), ("build", "e", True, "a"), ("build", "E", 1, "a"),
                 ("build", "e", 1, "1"), ("build", "e", "1", "a"), ("build", "e", 1, "a", 1), ("build", {}, 1, "a"),
                 ("build", "abcdefghi", 1, "a"), ("build", "e", -1, "a"), ("build", "a", 0, "a"), ("watch",), ("hold",),
                 ("free",), ("watch", ("open",), 1), ("hold", "houses", "d"), ("close", "a", "b"), ("", ("open",)),
                 "open", ("Open", "a", "b"), (["open"], "a", "b"), ({}, 1), (EXAMPLE, EXAMPLE), ("undo",), (None, None)]
        for thing in ANYTHING + wrong + [desk, (desk, desk)]:
            refused(self, BadDeed, {"thing": thing}, lambda: desk.do(thing))
            refused(self, BadDeed, {"thing": thing}, lambda: desk.would(thing))
        self.assertEqual((desk.count(), desk), (0, Desk(EXAMPLE)))

    def refused_deed(self, desk, deed, error, kept):
        before = repr(seen(desk))
        for call in [desk.do, desk.would]:
            for told in [deed, list(deed)]:
                refused(self, error, kept, lambda: call(told))
        self.assertEqual(repr(seen(desk)), before)

    def test_open(self):
        desk = begun(EXAMPLE, ("open", "b", "c"))
        for one, other, error, kept in [
                ("x", "y", NoHouse, {"house": "x"}), ("a", "y", NoHouse, {"house": "y"}),
                ("c", "c", NoRoad, {"one": "c", "other": "c"}), ("a", "c", NoRoad, {"one": "a", "other": "c"}),
                ("c", "b", IsOpen, {"one": "c", "other": "b"}), ("b", "c", IsOpen, {"one": "b", "other": "c"})]:
            self.refused_deed(desk, ("open", one, other), error, kept)

    def test_build(self):
        desk = Desk(EXAMPLE)
        for name, house, error, kept in [
                ("a", "y", IsHouse, {"name": "a"}), ("d", "a", IsHouse, {"name": "d"}),
                ("e", "y", NoHouse, {"house": "y"}), ("e", "e", NoHouse, {"house": "e"})]:
            self.refused_deed(desk, ("build", name, 1, house), error, kept)
        desk.do(["build", "e", 10 ** 9 - 1, "d"])
        self.refused_deed(desk, ("build", "e", 1, "a"), IsHouse, {"name": "e"})
        self.assertEqual(desk.valley(), Valley(list("abcde"), EXAMPLE.roads() + [("d", "e")], [1, 1, 1, 1, 10 ** 9 - 1]))
        self.assertEqual(desk.opened(), [])
        self.assertEqual(EXAMPLE.houses(), list("abcd"))

    def test_watched_and_held(self):
        desk = Desk(EXAMPLE)
        one, two, three = ("feasts", "a"), ("open",), ("joined", "a", "d")
        for deed, watched in [
                (("watch", one), [(one, 0, False)]),
                (("hold", ["open"]), [(one, 0, False), (two, 0, True)]),
                (("watch", list(three)), [(one, 0, False), (two, 0, True), (three, False, False)]),
                (("hold", one), [(one, 0, True), (two, 0, True), (three, False, False)]),
                (("free", two), [(one, 0, True), (three, False, False)]),
                (("watch", two), [(one, 0, True), (three, False, False), (two, 0, False)]),
                (("free", one), [(three, False, False), (two, 0, False)])]:
            self.assertEqual(desk.do(deed), [])
            self.assertEqual(repr(desk.watched()), repr(watched))
        self.assertEqual(repr(desk.deeds()[1:3]), repr([("hold", two), ("watch", three)]))

    def test_is_watched(self):
        desk = begun(EXAMPLE, ("watch", ("feasts", "a")), ("hold", ("open",)))
        for word, question, error in [("watch", ["feasts", "a"], IsWatched), ("watch", ["open"], IsWatched),
                                      ("hold", ["open"], IsWatched), ("hold", ("open",), IsWatched),
                                      ("watch", ("feasts", "a"), IsWatched), ("free", ["feasts", "b"], NotWatched),
                                      ("free", ("houses", "a"), NotWatched)]:
            self.refused_deed(desk, (word, question), error, {"question": question})
        self.assertEqual(desk.do(("hold", ("feasts", "a"))), [])

    def test_what_would_change(self):
        desk = begun(EXAMPLE, ("watch", ("open",)), ("watch", ("feasts", "b")), ("hold", ["people", "c"]),
                     ("hold", ["houses", "c"]), ("watch", ("joined", "a", "b")))
        changed = [(("open",), 0, 1), (("feasts", "b"), 0, 1), (("people", "c"), 1, 2), (("houses", "c"), 1, 2)]
        self.assertEqual(repr(desk.would(("open", "c", "b"))), repr(changed))
        would_change(self, desk, ("people", "c"), ("open", "c", "b"))
        self.assertEqual((desk.count(), desk.opened(), desk.free_roads()), (5, [], [("a", "b"), ("b", "d")]))
        # What is wrong of a deed itself is due ahead of what would change.
        refused(self, NoRoad, {"one": "c", "other": "a"}, lambda: desk.do(("open", "c", "a")))
        self.assertEqual(desk.do(("free", ("people", "c"))), [])
        would_change(self, desk, ("houses", "c"), ("open", "c", "b"))
        self.assertEqual(desk.do(("free", ("houses", "c"))), [])
        self.assertEqual(desk.do(("open", "c", "b")), changed[:2])
        self.assertEqual(desk.do(("open", "a", "b")),
                         [(("open",), 1, 2), (("feasts", "b"), 1, 2), (("joined", "a", "b"), False, True)])

    def test_deeds_are_told_as_tuples(self):
        desk = Desk(EXAMPLE)
        question = ["people", "b"]
        deeds = [["open", "d", "b"], ["build", "e", 2, "a"], ["watch", question], ("hold", question)]
        for deed in deeds:
            desk.do(deed)
        told = [("open", "d", "b"), ("build", "e", 2, "a"), ("watch", ("people", "b")), ("hold", ("people", "b"))]
        question[1] = "c"
        deeds[0][0] = 7
        self.assertEqual(repr(desk.deeds()), repr(told))
        self.assertEqual(repr([desk.undo() for _ in told]), repr(told[::-1]))
        self.assertEqual(repr([desk.again() for _ in told]), repr(told))

    def test_told_lists_are_the_callers(self):
        desk = begun(EXAMPLE, ("open", "a", "b"), ("hold", ("houses", "a")), ("build", "e", 1, "c"))
        goal = named([2, 2, 2, 3, 3])
        for call in [desk.opened, desk.watched, desk.deeds, desk.free_roads, lambda: desk.would(("open", "b", "c")),
                     lambda: desk.way_to(named([4, 4, 3, 1, 2])), lambda: desk.valley().houses(),
                     lambda: desk.goal_fault(goal)[1][1]]:
            told = call()
            before = list(told)
            self.assertTrue(before)
            told.clear()
            self.assertEqual(call(), before)
        self.assertEqual(goal, named([2, 2, 2, 3, 3]))
        desk.do(("free", ("houses", "a")))
        desk.do(("watch", ("open",)))
        desk.do(("open", "b", "c")).clear()
        self.assertEqual(desk.watched(), [(("open",), 2, False)])


class Goals(unittest.TestCase):
    def test_bad_goal(self):
        wrong = [named([2, 3, 3]), {**named([2, 3, 3, 1]), "e": 0}, {**named([2, 3, 3]), "d": True},
                 {**named([2, 3, 3]), "d": -1}, {**named([2, 3, 3]), "d": "1"}, {**named([2, 3, 3]), ("d",): 1}]
        for thing in ANYTHING + wrong:
            for call in [Desk(EXAMPLE).way_to, Desk(EXAMPLE).goal_fault]:
                refused(self, BadGoal, {"goal": thing}, lambda: call(thing))
        goal = named([2, 3, 3, 1])
        refused(self, BadGoal, {"goal": goal}, lambda: begun(EXAMPLE, ("build", "e", 1, "a")).way_to(goal))

    def held_against(self, valley, ways, roads, goal):
        """ways: the dict from feasts to all evenings that have them."""
        desk = opened_so(valley, [road[::-1] for road in roads])
        evenings = ways.get(frozen(goal), [])
        way, fault = desk.way_to(goal), desk.goal_fault(goal)
        self.assertEqual(way is None, not any(evening[:len(roads)] == roads for evening in evenings))
        self.assertNotEqual(way is None, fault is None)
        if way is not None:
            self.assertIn(roads + way, evenings)
            other = begun(valley, ("watch", ("open",)), *[("open", *road) for road in roads])
            self.assertEqual(other.way_to({house: goal[house] for house in reversed(list(goal))}),
                             other.at(other.count()).way_to(goal))
        elif not evenings:
            self.assertEqual(repr(fault), repr(("break", feasts_break(valley, goal))))
        else:
            due = plain_parts(valley, evenings[0])
            was = [sorted(plain_lot(valley.houses(), roads[:at + 1], road[0])) for at, road in enumerate(roads)]
            first = [road for road, lot in zip(roads, was) if lot != sorted(due[road])][0]
            self.assertEqual(repr(fault), repr(("road", *first)))

    def test_all_goals_of_evenings(self):
        for valley in small_valleys(5):
            ways = {}
            for evening in all_evenings(valley):
                ways.setdefault(frozen(plain_feasts(valley, evening)), []).append(evening)
            begins = {tuple(evening[:many]) for evening in all_evenings(valley) for many in range(len(evening) + 1)}
            for roads in sorted(begins)[:: 1 if len(valley.houses()) < 5 else 3]:
                for goal in ways:
                    self.held_against(valley, ways, list(roads), dict(goal))
            for roads in sorted(begins)[::7]:
                for goal in list(ways)[::5]:
                    for near in nearly(dict(goal), [0, 1, 5]):
                        self.held_against(valley, ways, list(roads), near)

    def test_whatever_is_held_and_behind_building(self):
        desk = begun(EXAMPLE, ("open", "b", "c"), ("hold", ("open",)), ("build", "e", 2, "c"), ("hold", ("houses", "e")))
        goal = {"a": 2, "b": 4, "c": 4, "d": 1, "e": 3}
        way = desk.way_to(goal)
        self.assertEqual(way, [("c", "e"), ("a", "b"), ("b", "d")])
        self.assertIsNone(desk.goal_fault(goal))
        self.assertEqual(desk.goal_fault({"a": 2, "b": 3, "c": 4, "d": 1, "e": 4}), ("road", "b", "c"))
        self.assertEqual(desk.goal_fault(named([2, 2, 2, 2, 2])), ("break", ("sum", (5, 4))))


class Ahead(unittest.TestCase):
    def test_would_and_free_roads(self):
        for valley in small_valleys(5):
            questions = all_questions(valley)
            for at, evening in enumerate(all_evenings(valley)):
                for many in range(len(evening)):
                    held = questions[(at + many) % len(questions)]
                    watched = questions[(3 * at + many) % len(questions)]
                    desk = opened_so(valley, evening[:many])
                    desk.do(("hold", held))
                    if watched != held:
                        desk.do(("watch", watched))
                    self.ahead_of(desk, valley, evening[:many])

    def ahead_of(self, desk, valley, roads):
        before = repr(seen(desk))
        free = []
        for road in valley.roads():
            if road in roads:
                continue
            told = [(question, answer, plain_answer(valley, roads + [road], question))
                    for question, answer, _ in desk.watched()]
            changed = [each for each in told if each[1] != each[2]]
            self.assertEqual(repr(desk.would(("open", *road))), repr(changed))
            self.assertEqual(repr(seen(desk)), before)
            held = [question for question, _, is_held in desk.watched() if is_held]
            broken = [question for question, _, _ in changed if question in held]
            if broken:
                would_change(self, desk, broken[0], ("open", *road))
            else:
                free.append(road)
                other = desk.copy()
                self.assertEqual(repr(other.do(("open", *road))), repr(changed))
                self.assertEqual(other.opened(), roads + [road])
            self.assertEqual(repr(seen(desk)), before)
        self.assertEqual(repr(desk.free_roads()), repr(free))


def some_deed(chance, desk):
    """One that is done, or refused."""
    valley = desk.valley()
    word = chance.choice(["open", "open", "open", "build", "watch", "hold", "free"])
    if word == "open":
        return (word, *chance.choice(valley.roads() or [("a", "a")])[::chance.choice([1, -1])])
    if word == "build":
        name = f"n{chance.randrange(20)}"
        return word, name, chance.randrange(1, 9), chance.choice(valley.houses())
    if word == "free" and desk.watched():
        return word, chance.choice(desk.watched())[0]
    return word, chance.choice(all_questions(valley))


def session(valley, seed, most=60):
    """A desk behind some deeds, and all that it told behind each of them."""
    chance = random.Random(seed)
    desk = Desk(valley)
    told = [repr(seen(desk))]
    for _ in range(3 * most):
        try:
            deed = some_deed(chance, desk)
            many = len(desk.watched()) >= 5 and deed[0] in ("watch", "hold")
            if desk.count() < most and not many and (deed[0] != "build" or len(desk.valley().houses()) < 12):
                desk.do(deed)
                told.append(repr(seen(desk)))
        except FeastError:
            assert repr(seen(desk)) == told[-1]
    return desk, told


class BackAndOn(unittest.TestCase):
    def test_every_deed_back_and_on_again(self):
        for seed, valley in enumerate([EXAMPLE, LONE, TWO, row(6), star(7), tree(8, 1), tree(9, 2)]):
            desk, told = session(valley, seed)
            deeds = desk.deeds()
            self.assertEqual(desk.count(), len(deeds))
            self.assertGreater(len(deeds), 20)
            for number in reversed(range(len(deeds))):
                self.assertEqual(repr(desk.undo()), repr(deeds[number]))
                self.assertEqual(repr(seen(desk)), told[number])
                self.assertEqual(to_come(desk), deeds[number:])
            self.assertIsNone(desk.undo())
            self.assertEqual(repr(seen(desk)), told[0])
            for number in range(len(deeds)):
                self.assertEqual(repr(desk.again()), repr(deeds[number]))
                self.assertEqual(repr(seen(desk)), told[number + 1])
            self.assertIsNone(desk.again())
            self.assertEqual(repr(seen(desk)), told[-1])

    def test_held_questions_are_not_looked_at(self):
        desk = begun(EXAMPLE, ("open", "a", "b"), ("hold", ("open",)))
        self.assertEqual((desk.undo(), desk.undo()), (("hold", ("open",)), ("open", "a", "b")))
        desk.again()
        desk.again()
        desk.do(("free", ("open",)))
        desk.do(("open", "c", "b"))
        desk.do(("hold", ("houses", "c")))
        for _ in range(2):
            desk.undo()
        self.assertEqual((desk.opened(), desk.again(), desk.again()),
                         ([("a", "b")], ("open", "c", "b"), ("hold", ("houses", "c"))))

    def test_a_new_deed_ends_what_can_be_done_again(self):
        desk = begun(EXAMPLE, ("open", "a", "b"), ("open", "b", "c"))
        desk.undo()
        refused(self, IsOpen, {"one": "a", "other": "b"}, lambda: desk.do(("open", "a", "b")))
        desk.would(("open", "b", "d"))
        self.assertEqual(to_come(desk), [("open", "b", "c")])
        desk.do(("watch", ("open",)))
        self.assertIsNone(desk.again())
        self.assertEqual(desk.deeds(), [("open", "a", "b"), ("watch", ("open",))])

    def test_at(self):
        for seed, valley in enumerate([EXAMPLE, tree(9, 4)]):
            desk, told = session(valley, seed + 10)
            for _ in range(3):
                desk.undo()
            ahead = desk.deeds()
            for number in range(desk.count() + 1):
                other = desk.at(number)
                self.assertEqual(repr(seen(other)), told[number])
                self.assertIsNone(other.again())
                self.assertEqual(other.deeds(), ahead[:number])
                other.do(("build", "zz", 1, valley.houses()[0]))
                self.assertEqual(other.undo(), ("build", "zz", 1, valley.houses()[0]))
                while other.undo() is not None:
                    self.assertEqual(repr(seen(other)), told[other.count()])
            self.assertEqual(repr(seen(desk)), told[-4])
            self.assertEqual(len(to_come(desk)), 3)
            for thing in ANYTHING + [desk.count() + 1]:
                if thing not in (0, 1) or isinstance(thing, bool):
                    refused(self, NoCount, {"number": thing}, lambda: desk.at(thing))

    def test_copy(self):
        for seed, valley in enumerate([EXAMPLE, tree(9, 4)]):
            desk, told = session(valley, seed + 20)
            for _ in range(2):
                desk.undo()
            other = desk.copy()
            self.assertIsNot(other, desk)
            self.assertEqual(other, desk)
            self.assertEqual(to_come(other), to_come(desk))
            self.assertEqual(repr(seen(other)), told[-3])
            other.undo()
            other.do(("build", "zz", 1, valley.houses()[0]))
            self.assertEqual(repr(seen(desk)), told[-3])
            desk.again()
            self.assertEqual(repr(seen(desk)), told[-2])
            self.assertIsNone(other.again())


class Boom(Exception):
    pass


class Trials(unittest.TestCase):
    def desk(self):
        desk = begun(EXAMPLE, ("open", "a", "b"), ("hold", ("houses", "d")), ("watch", ("open",)), ("open", "b", "c"))
        desk.undo()
        return desk

    def test_what_it_returns(self):
        desk = self.desk()
        before = repr(seen(desk))
        got = []
        result = [1]
        for work in [lambda there: result, lambda there: got.append(there), lambda there: there.do(("open", "c", "b")),
                     lambda there: [there.undo() for _ in range(9)], lambda there: there.again(),
                     lambda there: there.do(("build", "e", 1, "a")), lambda there: there.do(("free", ("open",)))]:
            desk.trial(work)
            self.assertEqual(repr(seen(desk)), before)
            self.assertEqual(to_come(desk), [("open", "b", "c")])
        self.assertIs(desk.trial(lambda there: result), result)
        self.assertIs(got[0], desk)
        self.assertEqual(desk.trial(lambda there: there.do(("open", "b", "c"))), [(("open",), 1, 2)])
        kept = desk.trial(lambda there: (there.again(), there.copy())[1])
        self.assertEqual((kept.count(), desk.count()), (4, 3))

    def test_errors_come_out(self):
        desk = self.desk()
        before = repr(seen(desk))

        def work(there):
            there.undo()
            there.undo()
            there.do(("open", "b", "d"))
            there.do(("build", "e", 5, "d"))
            raise boom

        boom = Boom()
        with self.assertRaises(Boom) as caught:
            desk.trial(work)
        self.assertIs(caught.exception, boom)
        self.assertEqual((repr(seen(desk)), to_come(desk)), (before, [("open", "b", "c")]))
        refused(self, IsOpen, {"one": "b", "other": "a"}, lambda: desk.trial(lambda there: there.do(("open", "b", "a"))))
        self.assertEqual((repr(seen(desk)), to_come(desk)), (before, [("open", "b", "c")]))

    def test_one_within_another(self):
        desk = self.desk()
        depths = []

        def deeper(there):
            before = repr(seen(there)), to_come(there)
            depths.append(there.count())
            if len(depths) <= 6:
                there.do(("build", f"x{len(depths)}", 1, "a"))
                there.undo()
                there.again()
                there.do(("open", "a", f"x{len(depths)}"))
                mine = repr(seen(there))
                try:
                    there.trial(deeper)
                except Boom:
                    self.assertEqual(repr(seen(there)), mine)
                there.undo()
                there.undo()
                self.assertEqual(repr(seen(there)), before[0])
            raise Boom()

        before = repr(seen(desk)), to_come(desk)
        self.assertRaises(Boom, desk.trial, deeper)
        self.assertEqual(depths, [3, 5, 7, 9, 11, 13, 15])
        self.assertEqual((repr(seen(desk)), to_come(desk)), before)


class Equal(unittest.TestCase):
    def test_what_counts(self):
        desk = begun(EXAMPLE, ("open", "a", "b"), ("open", "b", "c"), ("watch", ("open",)), ("hold", ("houses", "d")))
        likes = [
            begun(EXAMPLE, ("hold", ("houses", "d")), ("free", ("houses", "d")), ("open", "b", "a"), ("watch", ["open"]),
                  ("hold", ("houses", "d")), ("open", "c", "b")),
            desk.copy(), desk.at(4), begun(Valley(*[list(x) for x in [EXAMPLE.houses(), EXAMPLE.roads(), EXAMPLE.heads()]]),
                                           *desk.deeds()),
        ]
        for like in likes:
            self.assertTrue(desk == like and like == desk)
            self.assertFalse(desk != like)
            self.assertEqual(like.way_to(named([2, 3, 3, 1])), desk.way_to(named([2, 3, 3, 1])))
        unlikes = [
            begun(EXAMPLE, ("open", "b", "c"), ("open", "a", "b"), ("watch", ("open",)), ("hold", ("houses", "d"))),
            begun(EXAMPLE, ("open", "a", "b"), ("open", "b", "c"), ("hold", ("houses", "d")), ("watch", ("open",))),
            begun(EXAMPLE, ("open", "a", "b"), ("open", "b", "c"), ("hold", ("open",)), ("hold", ("houses", "d"))),
            begun(EXAMPLE, ("open", "a", "b"), ("open", "b", "c"), ("watch", ("open",)), ("watch", ("houses", "d"))),
            begun(EXAMPLE, ("open", "a", "b"), ("open", "b", "c"), ("watch", ("open",))),
            begun(EXAMPLE, ("open", "a", "b"), ("watch", ("open",)), ("hold", ("houses", "d"))),
            begun(Valley(list("abcd"), EXAMPLE.roads(), [1, 1, 1, 2]), *desk.deeds()),
            begun(EXAMPLE, *desk.deeds(), ("build", "e", 1, "a")),
        ]
        for unlike in unlikes:
            self.assertFalse(desk == unlike or unlike == desk)
            self.assertTrue(desk != unlike)
        for thing in ANYTHING:
            self.assertFalse(desk == thing or thing == desk)

    def test_built_or_there_from_the_begin(self):
        later = begun(LONE, ("build", "b", 2, "a"), ("build", "c", 3, "b"))
        self.assertEqual(later, Desk(Valley(list("abc"), [("a", "b"), ("b", "c")], [7, 2, 3])))


class AtTheLimits(unittest.TestCase):
    def test_twelve_houses_and_sixty_deeds(self):
        for valley in [row(12), star(12), tree(12, 3, [10 ** 9 - 1] * 12)]:
            desk, told = session(valley, 5)
            self.assertLessEqual(desk.count(), 60)
            while desk.undo() is not None:
                self.assertEqual(repr(seen(desk)), told[desk.count()])
            evening = valley.roads()[::-1]
            goal = plain_feasts(valley, evening)
            fresh = opened_so(valley, evening[:5])
            way = fresh.way_to(goal)
            for one, other in way:
                fresh.do(("open", one, other))
            self.assertEqual({house: fresh.answer(("feasts", house)) for house in goal}, goal)
            self.assertEqual(fresh.answer(("people", valley.houses()[0])), sum(valley.heads()))

    def test_built_up_to_twelve(self):
        desk = Desk(LONE)
        names = "abcdefghijkl"
        for ahead, name in zip(names, names[1:]):
            desk.do(("build", name, 10 ** 9 - 1, ahead))
            desk.do(("open", name, ahead))
        self.assertEqual(desk.answer(("people", "a")), 7 + 11 * (10 ** 9 - 1))
        self.assertEqual([desk.answer(("feasts", name)) for name in names], [11] + list(range(11, 0, -1)))
        self.assertEqual(desk.opened(), list(zip(names, names[1:])))
