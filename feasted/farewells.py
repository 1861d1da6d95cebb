"""Farewells: the roads are closed again, and who was joined until then says farewell."""

from feasted.checks import need_closing, need_feasts, need_many, need_valley
from feasted.errors import SameHouse
from feasted.halves import feasts_break
from feasted.partings import around, feasts_from, held_by, join_up, roads_at
from feasted.spans import first_in_order
from feasted.ways import places_between
from feasted.weights import parts_held


def farewells(valley, closing):
    need_valley(valley)
    places = need_closing(valley, closing)
    return feasts_from(valley, held_by(valley, places[::-1]))


def parted_by(valley, closing, one, other):
    need_valley(valley)
    places = need_closing(valley, closing)
    way = places_between(valley, one, other)
    if not way:
        raise SameHouse(other)
    many = min([places.index(place) for place in way])
    return valley.roads()[places[many]], many


def still_joined(valley, closing, house, many):
    need_valley(valley)
    places = need_closing(valley, closing)
    valley.need_house(house)
    need_many(valley, many)
    _, lots = join_up(valley, places[many:])
    return lots[house]


def closing_of(valley, feasts):
    need_valley(valley)
    need_feasts(valley, feasts)
    held = parts_held(valley, feasts)
    if held is None:
        return None
    # Turned about, each road comes behind all in whose parts it lies.
    holders = around(valley, held)
    needs = {place: [holder for holder in holders[place] if holder != place] for place in holders}
    return roads_at(valley, first_in_order(needs))


def closing_break(valley, feasts):
    return feasts_break(valley, feasts)
