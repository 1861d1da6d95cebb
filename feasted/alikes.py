"""All evenings that are alike to one: how many there are, their numbers, and how they go on."""

from math import factorial

from feasted.checks import need_evening, need_far, need_road, need_valley
from feasted.errors import BadNumber, BadOpened
from feasted.kinds import is_list, is_number
from feasted.partings import around, free_now, held_by, open_one, roads_at, waits_of


def count_alike(valley, evening):
    _, waits = _begin(valley, evening)
    return _ways_on(waits)


def always_ahead(valley, evening, road, far):
    holders, _ = _begin(valley, evening)
    place = need_road(valley, road)
    later = need_far(valley, far)
    return place != later and later in holders[place]


def alike_at(valley, evening, number):
    holders, waits = _begin(valley, evening)
    if not is_number(number) or number >= _ways_on(waits):
        raise BadNumber(number)
    return roads_at(valley, _places_at(holders, waits, number))


def alike_number(valley, evening):
    holders, waits = _begin(valley, evening)
    number = 0
    for place in need_evening(valley, evening):
        ahead = [far for far in free_now(waits) if far < place]
        number += sum([_ways_behind(holders, waits, far) for far in ahead])
        open_one(waits, holders, place)
    return number


def next_alike(valley, evening):
    number = alike_number(valley, evening) + 1
    holders, waits = _begin(valley, evening)
    if number == _ways_on(waits):
        return None
    return roads_at(valley, _places_at(holders, waits, number))


def can_be_next(valley, evening, opened):
    return roads_at(valley, free_now(_left_behind(valley, evening, opened)))


def count_begun(valley, evening, opened):
    return _ways_on(_left_behind(valley, evening, opened))


def _begin(valley, evening):
    """In whose parts each road lies, and for how many roads each waits ahead of the first opening."""
    need_valley(valley)
    holders = around(valley, held_by(valley, need_evening(valley, evening)))
    return holders, waits_of(holders)


def _left_behind(valley, evening, opened):
    """For how many roads each of those left waits behind these openings."""
    holders, waits = _begin(valley, evening)
    if not is_list(opened):
        raise BadOpened(0)
    for index, road in enumerate(opened):
        if not valley.is_road(road):
            raise BadOpened(index)
        place = valley.place(road[0], road[1])
        if place not in free_now(waits):
            raise BadOpened(index)
        open_one(waits, holders, place)
    return waits


def _ways_on(waits):
    """In how many ways the roads left can be opened."""
    orders = factorial(len(waits))
    for place in waits:
        orders //= waits[place]
    return orders


def _ways_behind(holders, waits, place):
    """In how many ways it goes on, once this road is opened."""
    behind = {far: waits[far] for far in waits}
    open_one(behind, holders, place)
    return _ways_on(behind)


def _places_at(holders, waits, number):
    """The places, as they are opened, of the alike evening with this number."""
    order = []
    while waits:
        ahead = 0
        for place in free_now(waits):
            behind = ahead + _ways_behind(holders, waits, place)
            if number < behind:
                break
            ahead = behind
        number -= ahead
        order.append(place)
        open_one(waits, holders, place)
    return order
