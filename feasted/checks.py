"""What more than one module asks of its arguments."""

from feasted.errors import BadEvening, BadFar, BadFeasts, BadMany, BadRest, BadRoad, BadSome, BadValley
from feasted.kinds import first_stranger, is_book, is_from_one, is_list, is_number, keys_lacking
from feasted.refusals import BadBegun, BadClosing, CommonHouse
from feasted.valleys import Valley


def need_valley(valley):
    if not isinstance(valley, Valley):
        raise BadValley(valley)


def begun_places(valley, thing):
    """The places of unlike roads, as they are opened, None for what is no list of such."""
    if not is_list(thing) or not all([valley.is_road(road) for road in thing]):
        return None
    places = [valley.place(road[0], road[1]) for road in thing]
    if len(set(places)) != len(places):
        return None
    return places


def evening_places(valley, thing):
    """The places of an evening's roads, as they are opened, None for what is no evening."""
    places = begun_places(valley, thing)
    if places is None or len(places) != len(valley.roads()):
        return None
    return places


def need_evening(valley, evening):
    """The places of its roads, as they are opened."""
    places = evening_places(valley, evening)
    if places is None:
        raise BadEvening(evening)
    return places


def need_closing(valley, closing):
    """The places of its roads, as they are closed."""
    places = evening_places(valley, closing)
    if places is None:
        raise BadClosing(closing)
    return places


def need_begun(valley, begun):
    """The places of its roads, as they are opened."""
    places = begun_places(valley, begun)
    if places is None:
        raise BadBegun(begun)
    return places


def need_many(valley, many):
    if not is_number(many) or many > len(valley.roads()):
        raise BadMany(many)


def need_feasts(valley, feasts):
    if not is_book(feasts, valley.houses(), is_number):
        raise BadFeasts(feasts)


def need_some(valley, some):
    if not is_list(some):
        raise BadSome(0)
    index = first_stranger(some, valley.houses())
    if index is not None:
        raise BadSome(index)


def need_rest(valley, rest):
    """The road that a rest lacks."""
    lacking = keys_lacking(rest, valley.roads(), is_from_one)
    if lacking is None or len(lacking) != 1:
        raise BadRest(rest)
    return lacking[0]


def need_road(valley, road):
    """Its place."""
    if not valley.is_road(road):
        raise BadRoad(road)
    return valley.place(road[0], road[1])


def need_far(valley, far):
    """Its place."""
    if not valley.is_road(far):
        raise BadFar(far)
    return valley.place(far[0], far[1])


def need_two(first, second, house, far):
    """Two valleys that can be joined, and a house of each."""
    need_valley(first)
    need_valley(second)
    for name in first.houses():
        if second.is_house(name):
            raise CommonHouse(name)
    first.need_house(house)
    second.need_house(far)


def is_no_function(thing):
    """Whether it is of a kind that is refused wherever a function is asked for."""
    return thing is None or isinstance(thing, (int, str, list, tuple, dict, Valley))
