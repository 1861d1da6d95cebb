"""Tables of common feasts: how often each two houses feasted together."""

from feasted.checks import need_evening, need_feasts, need_some, need_valley
from feasted.errors import BadMany, BadSome, BadTable, NotThree
from feasted.evenings import feasts_of
from feasted.kinds import is_book, is_from_one, is_number
from feasted.partings import held_by, join_up
from feasted.roadnumbers import evening_of_numbers
from feasted.ways import places_between
from feasted.weights import parts_held


def common(valley, evening, some):
    need_valley(valley)
    places = need_evening(valley, evening)
    need_some(valley, some)
    if len(some) == 0:
        raise BadSome(0)
    came, _ = join_up(valley, places)
    return len([part for part in came if all([house in part for house in some])])


def table_of(valley, evening):
    need_valley(valley)
    places = need_evening(valley, evening)
    return _table_from(valley, held_by(valley, places))


def first_joined(valley, evening, one, other):
    need_valley(valley)
    places = need_evening(valley, evening)
    on_the_way = places_between(valley, one, other)
    if not on_the_way:
        return None
    return valley.roads()[max(on_the_way, key=lambda place: places.index(place))]


def joined_first(valley, evening, one, other, third):
    need_valley(valley)
    places = need_evening(valley, evening)
    three = [one, other, third]
    for house in three:
        valley.need_house(house)
    if one == other or one == third or other == third:
        raise NotThree(one, other, third)
    came, _ = join_up(valley, places)
    # A feast joins two lots: the first one with more than one of the three has just two of them.
    there = [[house for house in part if house in three] for part in came]
    both = [some for some in there if len(some) == 2][0]
    return both[0], both[1]


def evening_of_table(valley, table):
    if table_clash(valley, table) is not None:
        return None
    return evening_of_numbers(valley, {(one, other): _number(table, one, other) for one, other in valley.roads()})


def table_clash(valley, table):
    need_valley(valley)
    _need_table(valley, table)
    between = _clash_between(valley, table)
    return _clash_in_row(valley, table) if between is None else between


def with_often(valley, table, house, many):
    need_valley(valley)
    _need_table(valley, table)
    valley.need_house(house)
    if not is_from_one(many):
        raise BadMany(many)
    return [far for far in valley.houses() if far == house or _number(table, far, house) >= many]


def feasts_by_table(valley, table):
    evening = evening_of_table(valley, table)
    return None if evening is None else feasts_of(valley, evening)


def table_by_feasts(valley, feasts):
    need_valley(valley)
    need_feasts(valley, feasts)
    held = parts_held(valley, feasts)
    return None if held is None else _table_from(valley, held)


def pairs_of(valley):
    """All pairs of houses, one ahead of other in the valley's order, by one, then by other."""
    houses = valley.houses()
    return [(one, other) for at, one in enumerate(houses) for other in houses[at + 1:]]


def _need_table(valley, table):
    if not is_book(table, pairs_of(valley), is_number):
        raise BadTable(table)


def _table_from(valley, held):
    table = {pair: 0 for pair in pairs_of(valley)}
    for place in held:
        part = held[place]
        for at, one in enumerate(part):
            for other in part[at + 1:]:
                table[(one, other)] += 1
    return table


def _number(table, one, other):
    """What the table tells of two unlike houses, either one first."""
    return table[(one, other)] if (one, other) in table else table[(other, one)]


def _clash_between(valley, table):
    for one, other in pairs_of(valley):
        for third in valley.way(one, other)[1:-1]:
            near = _number(table, one, third)
            beyond = _number(table, third, other)
            if near == beyond or table[(one, other)] != min(near, beyond):
                return "between", one, other, third
    return None


def _clash_in_row(valley, table):
    houses = valley.houses()
    for house in houses:
        row = {_number(table, house, far): True for far in houses if far != house}
        if 0 in row:
            return "row", house, 0
        least = 1
        while least in row:
            least += 1
        if least < max(list(row), default=0):
            return "row", house, least
    return None
