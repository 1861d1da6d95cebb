"""Evenings: the roads, one after another, and who feasts when they are opened."""

from feasted.checks import evening_places, need_evening, need_many, need_valley
from feasted.partings import by_roads, feasts_from, first_of, held_by, join_up, lots_behind_all


def is_evening(valley, thing):
    need_valley(valley)
    return evening_places(valley, thing) is not None


def part_of(valley, evening, one, other):
    need_valley(valley)
    places = need_evening(valley, evening)
    place = valley.place(one, other)
    return held_by(valley, places)[place]


def parts(valley, evening):
    need_valley(valley)
    places = need_evening(valley, evening)
    return by_roads(valley, held_by(valley, places))


def parts_behind(valley, evening, many):
    need_valley(valley)
    places = need_evening(valley, evening)
    need_many(valley, many)
    return lots_behind_all(valley, places[:many])


def are_alike(valley, evening, other):
    need_valley(valley)
    places = need_evening(valley, evening)
    others = need_evening(valley, other)
    return held_by(valley, places) == held_by(valley, others)


def first_alike(valley, evening):
    need_valley(valley)
    places = need_evening(valley, evening)
    return first_of(valley, held_by(valley, places))


def feasts_of(valley, evening):
    need_valley(valley)
    places = need_evening(valley, evening)
    return feasts_from(valley, held_by(valley, places))


def at_table(valley, evening, house):
    need_valley(valley)
    places = need_evening(valley, evening)
    valley.need_house(house)
    came, _ = join_up(valley, places)
    return [part for part in came if house in part]
