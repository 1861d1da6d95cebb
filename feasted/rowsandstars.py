"""Rows and stars: unlike evenings by formulas."""

from math import comb, factorial

from feasted.checks import need_valley
from feasted.errors import BadMany, BadOften
from feasted.kinds import is_from_one, is_number


def is_row(valley):
    need_valley(valley)
    return all([len(valley.beside(house)) <= 2 for house in valley.houses()])


def is_star(valley):
    need_valley(valley)
    return any([len(valley.beside(house)) == len(valley.roads()) for house in valley.houses()])


def count_row(many):
    _need_from_one(many)
    return comb(2 * many - 2, many - 1) // many


def count_star(many):
    _need_from_one(many)
    return factorial(many - 1)


def row_end(many, often):
    _need_from_one(many)
    if not is_number(often):
        raise BadOften(often)
    if many == 1:
        return 1 if often == 0 else 0
    roads = many - 1
    if not 1 <= often <= roads:
        return 0
    return often * comb(2 * roads - often, roads) // (2 * roads - often)


def _need_from_one(many):
    if not is_from_one(many):
        raise BadMany(many)
