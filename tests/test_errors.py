import inspect
import unittest

from feasted import errors, refusals
from feasted.errors import FeastError
from tests.helpers import ANYTHING

LISTED = """BadHouses(index), BadRoads(index), BadHeads(index), BadValley(thing), NoHouse(house),
NoRoad(one, other), BadEvening(evening), BadMany(many), BadFeasts(feasts), BadSome(index), BadPart(part),
BadNumbers(numbers), BadRest(rest), NotOne(weight), BadRoad(road), BadFar(far), BadTold(told),
BadBounds(bounds), BadSums(sums), BadKnown(known), BadWidths(widths), BadNames(index), NoRow(gate),
BadCounts(counts), NotThree(one, other, third), BadTable(table), BadPairs(pairs), BadNumber(number),
BadOpened(index), NotAlike(), SameHouse(house), BadChooser(thing), BadOften(often), BadLog(index),
NoSuchLog(fault), BadLot(index), BadDate(date), BadDates(index), BadSpans(index)"""
REFUSALS = """BadTeams(teams), BadDays(days), BadBegun(begun), BadLooks(index), CommonHouse(name), BadJoin(join),
BadName(name), BadPeople(people), NotOuter(house), BadHeaps(heaps), BadClosing(closing), BadOthers(others),
BadOpener(thing), BadAsker(thing), BadAnswer(thing), NoEvening(broken), BadDeed(thing), IsOpen(one, other),
IsHouse(name), BadQuestion(thing), IsWatched(question), NotWatched(question), WouldChange(question), BadGoal(goal),
NoCount(number), BadDesk(thing), BadText(line)"""


def listed(text):
    for words in text.replace("\n", " ").split("), "):
        name, _, parameters = words.strip().rstrip(")").partition("(")
        yield name, [each for each in parameters.split(", ") if each]


def all_listed():
    """Each error class with its parameters."""
    for module, text in [(errors, LISTED), (refusals, REFUSALS)]:
        for name, parameters in listed(text):
            yield getattr(module, name), parameters


class Errors(unittest.TestCase):
    def test_the_first_one(self):
        self.assertEqual(FeastError.__bases__, (ValueError,))

    def test_all_are_there_and_no_others(self):
        for module, text, more in [(errors, LISTED, ["FeastError"]), (refusals, REFUSALS, [])]:
            there = [name for name, thing in vars(module).items()
                     if inspect.isclass(thing) and thing.__module__ == module.__name__]
            self.assertEqual(there, more + [name for name, _ in listed(text)])

    def test_each_is_a_direct_subclass(self):
        for error, _ in all_listed():
            self.assertEqual(error.__bases__, (FeastError,))

    def test_each_keeps_the_very_objects(self):
        for error, parameters in all_listed():
            self.assertEqual(list(inspect.signature(error).parameters), parameters)
            for at in range(len(ANYTHING)):
                things = [ANYTHING[(at + more) % len(ANYTHING)] for more in range(len(parameters))]
                for made in [error(*things), error(**dict(zip(parameters, things)))]:
                    self.assertIs(made.__class__, error)
                    self.assertIsInstance(made, ValueError)
                    self.assertEqual(list(vars(made)), parameters)
                    for parameter, thing in zip(parameters, things):
                        self.assertIs(getattr(made, parameter), thing)
                    self.assertIsInstance(str(made), str)
