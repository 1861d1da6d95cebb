import inspect
import unittest

from feasted import errors
from feasted.errors import FeastError
from tests.helpers import ANYTHING

LISTED = """BadHouses(index), BadRoads(index), BadHeads(index), BadValley(thing), NoHouse(house),
NoRoad(one, other), BadEvening(evening), BadMany(many), BadFeasts(feasts), BadSome(index), BadPart(part),
BadNumbers(numbers), BadRest(rest), NotOne(weight), BadRoad(road), BadFar(far), BadTold(told),
BadBounds(bounds), BadSums(sums), BadKnown(known), BadWidths(widths), BadNames(index), NoRow(gate),
BadCounts(counts), NotThree(one, other, third), BadTable(table), BadPairs(pairs), BadNumber(number),
BadOpened(index), NotAlike(), SameHouse(house), BadChooser(thing), BadOften(often), BadLog(index),
NoSuchLog(fault), BadLot(index), BadDate(date), BadDates(index), BadSpans(index)"""


def listed():
    for words in LISTED.replace("\n", " ").split("), "):
        name, _, parameters = words.strip().rstrip(")").partition("(")
        yield name, [each for each in parameters.split(", ") if each]


class Errors(unittest.TestCase):
    def test_the_first_one(self):
        self.assertEqual(FeastError.__bases__, (ValueError,))

    def test_all_are_there_and_no_others(self):
        there = [name for name, thing in vars(errors).items() if inspect.isclass(thing)]
        self.assertEqual(there, ["FeastError"] + [name for name, _ in listed()])

    def test_each_is_a_direct_subclass(self):
        for name, _ in listed():
            self.assertEqual(getattr(errors, name).__bases__, (FeastError,))

    def test_each_keeps_the_very_objects(self):
        for name, parameters in listed():
            error = getattr(errors, name)
            self.assertEqual(list(inspect.signature(error).parameters), parameters)
            for at in range(len(ANYTHING)):
                things = [ANYTHING[(at + more) % len(ANYTHING)] for more in range(len(parameters))]
                for made in [error(*things), error(**dict(zip(parameters, things)))]:
                    self.assertEqual(list(vars(made)), parameters)
                    for parameter, thing in zip(parameters, things):
                        self.assertIs(getattr(made, parameter), thing)
                    self.assertIsInstance(str(made), str)
