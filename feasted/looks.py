"""Looks at an evening half over, and what is still to come."""

from feasted.begun import held_or_break
from feasted.checks import need_begun, need_feasts, need_valley
from feasted.kinds import is_book, is_list, is_number
from feasted.partings import around, first_unlike, free_now, held_by, join_up, open_one, roads_at, waits_of
from feasted.refusals import BadLooks
from feasted.weights import parts_held


def begun_through(valley, looks):
    if looks_fault(valley, looks) is not None:
        return None
    seen = _held_by_looks(valley, looks)
    holders = around(valley, seen[-1])
    waits = waits_of(holders)
    order = []
    for held in seen:
        while len(order) < len(held):
            free = [place for place in free_now(waits) if place in held]
            order.append(free[0])
            open_one(waits, holders, free[0])
    return roads_at(valley, order)


def looks_fault(valley, looks):
    need_valley(valley)
    _need_looks(valley, looks)
    roads = valley.roads()
    ahead = {}
    for index, held in enumerate(_held_by_looks(valley, looks)):
        if held is None:
            return "break", index
        place = first_unlike(sorted(list(ahead)), ahead, held)
        if place is not None:
            return "back", index, roads[place]
        ahead = held
    return None


def still_to_come(valley, begun):
    need_valley(valley)
    places = need_begun(valley, begun)
    shut = [road for place, road in enumerate(valley.roads()) if place not in places]
    _, lots = join_up(valley, places)
    spans = {}
    for house in valley.houses():
        beside = [road for road in shut if road[0] in lots[house] or road[1] in lots[house]]
        spans[house] = len(beside), len(shut)
    return spans


def can_end_with(valley, begun, feasts):
    need_valley(valley)
    places = need_begun(valley, begun)
    need_feasts(valley, feasts)
    held = parts_held(valley, feasts)
    return held is not None and first_unlike(places, held_by(valley, places), held) is None


def _need_looks(valley, looks):
    if not is_list(looks) or len(looks) == 0:
        raise BadLooks(0)
    for index, look in enumerate(looks):
        if not is_book(look, valley.houses(), is_number):
            raise BadLooks(index)


def _held_by_looks(valley, looks):
    """The list of what is held by the begun evenings of each look, None where there are none."""
    return [held_or_break(valley, look)[0] for look in looks]
