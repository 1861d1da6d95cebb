"""Numbers at roads: how many feasts a road's part had from its own on."""

from feasted.checks import need_evening, need_feasts, need_rest, need_valley
from feasted.errors import BadNumbers, NotOne
from feasted.kinds import is_book, is_from_one
from feasted.partings import around, fall_apart, first_of, held_by, join_up, only_one, roads_inside
from feasted.weights import weigh


def road_numbers(valley, evening):
    need_valley(valley)
    places = need_evening(valley, evening)
    holders = around(valley, held_by(valley, places))
    return {road: len(holders[place]) for place, road in enumerate(valley.roads())}


def side_digits(valley, feasts, one, other):
    need_valley(valley)
    need_feasts(valley, feasts)
    valley.place(one, other)
    _need_one(valley, feasts)
    top, bottom = weigh(feasts, valley.side(one, other))
    many = bottom.bit_length() - 1
    return [(top >> at) & 1 for at in reversed(range(many))]


def evening_of_numbers(valley, numbers):
    need_valley(valley)
    _need_numbers(valley, numbers)
    held = _held_by_numbers(valley, numbers, None)
    return None if held is None else first_of(valley, held)


def numbers_break(valley, numbers):
    need_valley(valley)
    _need_numbers(valley, numbers)
    twins = _first_twins(valley, numbers)
    return _first_gap(valley, numbers) if twins is None else twins


def numbers_of_feasts(valley, feasts):
    need_valley(valley)
    need_feasts(valley, feasts)
    _need_one(valley, feasts)
    return _many_digits(valley, feasts)


def roads_break(valley, feasts):
    need_valley(valley)
    need_feasts(valley, feasts)
    together = weigh(feasts, valley.houses())
    if together != (1, 1):
        return "sum", together
    numbers = _many_digits(valley, feasts)
    for house in valley.houses():
        greatest = max([numbers[road] for road in valley.roads() if house in road], default=0)
        if feasts[house] != greatest:
            return "house", house
    return _first_twins(valley, numbers)


def number_lacking(valley, rest):
    need_valley(valley)
    lacking = need_rest(valley, rest)
    place = valley.place(lacking[0], lacking[1])
    held = _held_by_numbers(valley, rest, place)
    return None if held is None else len(around(valley, held)[place])


def _need_numbers(valley, numbers):
    if not is_book(numbers, valley.roads(), is_from_one):
        raise BadNumbers(numbers)


def _need_one(valley, feasts):
    together = weigh(feasts, valley.houses())
    if together != (1, 1):
        raise NotOne(together)


def _many_digits(valley, feasts):
    """How many digits a side of each road has: what it weighs, in lowest terms, is of so many halvings."""
    numbers = {}
    for one, other in valley.roads():
        _, bottom = weigh(feasts, valley.side(one, other))
        numbers[(one, other)] = bottom.bit_length() - 1
    return numbers


def _held_by_numbers(valley, numbers, lacking):
    """The parts held by these numbers, the road at one place having whatever number is due; None if none are."""
    roads = valley.roads()

    def last_of(part, depth):
        inside = roads_inside(valley, part)
        found = [place for place in inside if place != lacking and numbers[roads[place]] == depth + 1]
        return only_one(found, inside, lacking)

    held, _ = fall_apart(valley, last_of)
    return held


def _lot_at(valley, numbers, road):
    """All houses to which one comes from a road by roads of its number or more."""
    wide = [place for place, far in enumerate(valley.roads()) if numbers[far] >= numbers[road]]
    _, lots = join_up(valley, wide)
    return lots[road[0]]


def _first_twins(valley, numbers):
    roads = valley.roads()
    for place, road in enumerate(roads):
        for far in roads_inside(valley, _lot_at(valley, numbers, road)):
            if far > place and numbers[roads[far]] == numbers[road]:
                return "twins", road, roads[far]
    return None


def _first_gap(valley, numbers):
    roads = valley.roads()
    for road in roads:
        lot = _lot_at(valley, numbers, road)
        rim = [numbers[far] for far in roads if (far[0] in lot) != (far[1] in lot)]
        if numbers[road] != 1 + max(rim, default=0):
            return "gap", road
    return None
