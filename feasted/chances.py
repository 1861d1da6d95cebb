"""Chances of what comes about, each evening being as likely as any other."""

from math import comb

from feasted.checks import need_evening, need_valley
from feasted.errors import BadNumber, SameHouse
from feasted.kinds import fraction, is_number
from feasted.partings import held_by
from feasted.ways import places_between, rows_from


def chance_joined(valley, one, other, number):
    need_valley(valley)
    due = len(places_between(valley, one, other))
    if not is_number(number):
        raise BadNumber(number)
    every = len(valley.roads())
    many = min(number, every)
    if many < due:
        return 0, 1
    return fraction(comb(every - due, many - due), comb(every, many))


def mean_joined(valley, one, other):
    need_valley(valley)
    due = len(places_between(valley, one, other))
    return fraction(due * (len(valley.roads()) + 1), due + 1)


def chance_there(valley, house, one, other):
    need_valley(valley)
    valley.need_house(house)
    place = valley.place(one, other)
    return 1, len(rows_from(valley, house)[place])


def chance_both(valley, house, guest, one, other):
    need_valley(valley)
    valley.need_house(house)
    valley.need_house(guest)
    place = valley.place(one, other)
    return 1, len(set(rows_from(valley, house)[place] + rows_from(valley, guest)[place]))


def chances_first(valley, house, one, other):
    need_valley(valley)
    for known in (house, one, other):
        valley.need_house(known)
    if one == house:
        raise SameHouse(one)
    if other == house or other == one:
        raise SameHouse(other)
    way = places_between(valley, house, one)
    far = places_between(valley, house, other)
    both = len([place for place in way if place in far])
    every = len(way) + len(far) - both
    return fraction(len(far) - both, every), fraction(len(way) - both, every), fraction(both, every)


def chance_alike(valley, evening):
    need_valley(valley)
    held = held_by(valley, need_evening(valley, evening))
    bottom = 1
    for place in held:
        bottom *= len(held[place]) - 1
    return 1, bottom
