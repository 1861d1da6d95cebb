"""Sizes of parts, added up at houses and at roads."""

from feasted.checks import need_evening, need_some, need_valley
from feasted.partings import around, held_by


def size(valley, some):
    need_valley(valley)
    need_some(valley, some)
    return valley.people_in(some)


def sums_of(valley, evening):
    need_valley(valley)
    places = need_evening(valley, evening)
    sums = {house: 0 for house in valley.houses()}
    held = held_by(valley, places)
    for place in held:
        people = valley.people_in(held[place])
        for house in held[place]:
            sums[house] += people
    return sums


def calls_of(valley, evening):
    need_valley(valley)
    places = need_evening(valley, evening)
    held = held_by(valley, places)
    sizes = {place: valley.people_in(held[place]) for place in held}
    holders = around(valley, held)
    return {road: sum([sizes[far] for far in holders[place]]) for place, road in enumerate(valley.roads())}
