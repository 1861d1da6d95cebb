"""Growths, by which the most loaves are eaten, and the evenings by which the least are."""

from math import factorial

from feasted.bread import loaves
from feasted.checks import evening_places, need_valley
from feasted.partings import join_up, roads_at
from feasted.splits import bits_of, lot_of, lots_apart, splits_of


def is_growth(valley, thing):
    need_valley(valley)
    places = evening_places(valley, thing)
    if places is None:
        return False
    came, _ = join_up(valley, places)
    roads = roads_at(valley, places)
    return all([(one in part) != (other in part) for part, (one, other) in zip(came, roads[1:])])


def growth_from(valley, house):
    need_valley(valley)
    valley.need_house(house)
    nearer = valley.nearer(house)
    # Each lump stands by its first house.
    lumps = {far: [far] for far in nearer}
    first_of_lump = {far: far for far in nearer}
    while len(lumps) > 1:
        first = _densest(valley, [far for far in lumps if far != house], lumps)
        ahead = first_of_lump[nearer[first]]
        for far in lumps[first]:
            first_of_lump[far] = ahead
        lumps[ahead] = lumps[ahead] + lumps[first]
        del lumps[first]
    return roads_at(valley, [valley.place(far, nearer[far]) for far in lumps[house][1:]])


def most_loaves(valley):
    return loaves(valley, hungriest(valley))


def hungriest(valley):
    need_valley(valley)
    growths = [growth_from(valley, house) for house in valley.houses()]
    return max(growths, key=lambda growth: loaves(valley, growth))


def least_loaves(valley):
    least, _ = _thriftiest(valley)
    return least


def thriftiest(valley):
    _, places = _thriftiest(valley)
    return roads_at(valley, places)


def _densest(valley, firsts, lumps):
    """The first house of that lump in which the most people live by houses."""
    whole = factorial(len(valley.houses()))
    # All houses together divided by those of a lump: integers, however many people there are.
    return max(firsts, key=lambda first: valley.people_in(lumps[first]) * (whole // len(lumps[first])))


def _thriftiest(valley):
    need_valley(valley)
    houses = valley.houses()
    return _least_of(valley, splits_of(valley, houses), lot_of(bits_of(houses), houses), {})


def _least_of(valley, splits, lot, known):
    """The pair of the least loaves of a lot and of the places of its roads, as they are opened; known keeps them."""
    if lot not in known:
        known[lot] = 0, []
        ways = {}
        for place, near, beyond in lots_apart(splits, lot):
            mine, _ = _least_of(valley, splits, near, known)
            theirs, _ = _least_of(valley, splits, beyond, known)
            ways[place] = mine + theirs, near, beyond
        if ways:
            last = min(list(ways), key=lambda far: ways[far][0])
            least, near, beyond = ways[last]
            order = known[near][1] + known[beyond][1] + [last]
            known[lot] = least + _people_of(valley, lot), order
    return known[lot]


def _people_of(valley, lot):
    return sum([many for at, many in enumerate(valley.heads()) if (lot >> at) & 1])
