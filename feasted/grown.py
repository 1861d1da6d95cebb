"""Feasts alone of two valleys joined, of one side of a road, and of a valley with a house more, or one less."""

from feasted.checks import need_two, need_valley
from feasted.errors import BadFeasts, BadMany
from feasted.evenings import feasts_of
from feasted.halves import evening_of_feasts
from feasted.joins import joined_valley, joint_evening, side_evening, side_valley
from feasted.kinds import is_from_one, is_name, is_number
from feasted.refusals import BadName, BadPeople, NotOuter
from feasted.valleys import Valley


def joint_feasts(first, feasts, second, other_feasts, house, far, join):
    need_two(first, second, house, far)
    evening = _need_evening_of(first, feasts)
    other_evening = _need_evening_of(second, other_feasts)
    joint = joint_evening(first, evening, second, other_evening, house, far, join)
    return feasts_of(joined_valley(first, second, house, far), joint)


def side_feasts(valley, feasts, one, other):
    need_valley(valley)
    evening = _need_evening_of(valley, feasts)
    return feasts_of(side_valley(valley, one, other), side_evening(valley, evening, one, other))


def with_house(valley, feasts, name, people, house, many):
    need_valley(valley)
    _need_evening_of(valley, feasts)
    if not is_name(name) or valley.is_house(name):
        raise BadName(name)
    if not is_from_one(people):
        raise BadPeople(people)
    valley.need_house(house)
    if not is_number(many) or many > feasts[house]:
        raise BadMany(many)
    alone = Valley([name], [], [people])
    join = many, 0, ["mine"] * (feasts[house] - many)
    grown = joined_valley(valley, alone, house, name)
    return grown, joint_feasts(valley, feasts, alone, {name: 0}, house, name, join)


def without_house(valley, feasts, house):
    need_valley(valley)
    _need_evening_of(valley, feasts)
    beside = valley.beside(house)
    if len(beside) != 1:
        raise NotOuter(house)
    return side_valley(valley, beside[0], house), side_feasts(valley, feasts, beside[0], house)


def _need_evening_of(valley, feasts):
    """The first evening that has these feasts."""
    evening = evening_of_feasts(valley, feasts)
    if evening is None:
        raise BadFeasts(feasts)
    return evening
