"""Lists at gates: each time a road is opened the farther list is handed on towards the gate."""

from feasted.checks import need_evening, need_many, need_valley
from feasted.errors import BadNames
from feasted.kinds import first_stranger, is_list
from feasted.partings import first_of, in_order


def gate_list(valley, evening, gate):
    need_valley(valley)
    places = need_evening(valley, evening)
    valley.need_house(gate)
    lists, _ = _hand_on(valley, places, gate)
    return lists[gate]


def lists_behind(valley, evening, gate, many):
    need_valley(valley)
    places = need_evening(valley, evening)
    valley.need_house(gate)
    need_many(valley, many)
    lists, _ = _hand_on(valley, places[:many], gate)
    return {house: lists[house] for house in valley.houses() if house in lists}


def hands(valley, evening, gate, house):
    need_valley(valley)
    places = need_evening(valley, evening)
    valley.need_house(gate)
    valley.need_house(house)
    _, takers = _hand_on(valley, places, gate)
    through = []
    while house != gate:
        house = takers[house]
        through.append(house)
    return through


def evening_of_list(valley, gate, names):
    need_valley(valley)
    valley.need_house(gate)
    _need_names(valley, gate, names)
    held, _ = _fall_by_list(valley, gate, names)
    return None if held is None else first_of(valley, held)


def list_break(valley, gate, names):
    need_valley(valley)
    valley.need_house(gate)
    _need_names(valley, gate, names)
    _, broken = _fall_by_list(valley, gate, names)
    return broken


def twin(valley, gate, names, other):
    evening = evening_of_list(valley, gate, names)
    valley.need_house(other)
    return None if evening is None else gate_list(valley, evening, other)


def _need_names(valley, gate, names):
    if not is_list(names):
        raise BadNames(0)
    others = [house for house in valley.houses() if house != gate]
    index = first_stranger(names, others)
    if index is not None:
        raise BadNames(index)
    if len(names) < len(others):
        raise BadNames(len(names))


def _hand_on(valley, places, gate):
    """The lists of the houses that lie nearest to the gate in their parts, and to whom each other one handed on."""
    nearer = valley.nearer(gate)
    nearest = {house: house for house in valley.houses()}
    lists = {house: [] for house in valley.houses()}
    takers = {}
    roads = valley.roads()
    for place in places:
        one, other = roads[place]
        giver = one if nearer[one] == other else other
        taker = nearest[nearer[giver]]
        lists[taker].extend(lists[giver] + [giver])
        del lists[giver]
        takers[giver] = taker
        for house in valley.houses():
            if nearest[house] == giver:
                nearest[house] = taker
    return lists, takers


def _fall_by_list(valley, gate, names):
    """The pair of the parts held by a list at a gate, and of the first house out of place with all beyond."""
    nearer = valley.nearer(gate)
    held = {}
    waiting = [(valley.houses(), list(names))]
    while waiting:
        lot, row = waiting.pop()
        if not row:
            continue
        house = row[-1]
        away = valley.side(nearer[house], house)
        beyond = [far for far in lot if far in away]
        many = len(beyond)
        if in_order(valley, row[-many:]) != beyond:
            return None, (house, beyond)
        held[valley.place(nearer[house], house)] = lot
        waiting.append((beyond, row[-many:-1]))
        waiting.append(([far for far in lot if far not in away], row[:-many]))
    return held, None
