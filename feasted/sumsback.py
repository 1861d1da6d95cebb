"""The evening of given sums: each house hears of the roads by what is left of its sum."""

from feasted.checks import need_valley
from feasted.errors import BadKnown, BadSums
from feasted.evenings import feasts_of
from feasted.halves import evening_of_feasts
from feasted.kinds import is_book, is_number, keys_lacking
from feasted.partings import fall_apart, first_of, roads_inside
from feasted.sums import sums_of


def evening_of_sums(valley, sums):
    need_valley(valley)
    _need_sums(valley, sums)
    calls, broken = _hear(valley, sums)
    return None if broken is not None else _evening_of_calls(valley, calls)


def sums_break(valley, sums):
    need_valley(valley)
    _need_sums(valley, sums)
    _, broken = _hear(valley, sums)
    return broken


def feasts_by_sums(valley, sums):
    evening = evening_of_sums(valley, sums)
    return None if evening is None else feasts_of(valley, evening)


def sums_by_feasts(valley, feasts):
    evening = evening_of_feasts(valley, feasts)
    return None if evening is None else sums_of(valley, evening)


def sum_lacking(valley, known):
    need_valley(valley)
    lacking = keys_lacking(known, valley.houses(), is_number)
    if lacking is None or len(lacking) != 1:
        raise BadKnown(known)
    house = lacking[0]
    nearer = valley.nearer(house)
    lots, calls, broken = _hear_outside(valley, known, nearer)
    if broken is not None:
        return None
    # A house's sum is the greatest call of its roads.
    due = max([calls[far] for far in valley.beside(house)], default=0)
    return due if _last_break(valley, house, due, nearer, lots, calls) is None else None


def _need_sums(valley, sums):
    if not is_book(sums, valley.houses(), is_number):
        raise BadSums(sums)


def _hear(valley, sums):
    """The pair of the calls by places, None if a house breaks, and of the first house that does, with what is left."""
    first = valley.houses()[0]
    nearer = valley.nearer(first)
    lots, calls, broken = _hear_outside(valley, sums, nearer)
    if broken is None:
        broken = _last_break(valley, first, sums[first], nearer, lots, calls)
    if broken is not None:
        return None, broken
    return {valley.place(house, nearer[house]): calls[house] for house in calls}, None


def _hear_outside(valley, sums, nearer):
    """All houses but the innermost one, the outermost ahead: their lots, the calls of their roads inward, the break."""
    lots = {}
    calls = {}
    for house in _outermost_first(valley, nearer):
        lot, left, twice = _take_in(valley, house, sums[house], nearer, lots, calls)
        if twice or left < 1:
            return lots, calls, (house, left)
        lots[house] = lot
        calls[house] = left
    return lots, calls, None


def _outermost_first(valley, nearer):
    """All houses but the innermost one."""
    depths = {}
    for house in nearer:
        inward = nearer[house]
        depths[house] = 0 if inward is None else depths[inward] + 1
    outside = [house for house in valley.houses() if depths[house] > 0]
    return sorted(outside, key=lambda house: -depths[house])


def _take_in(valley, house, left, nearer, lots, calls):
    """The lot that a house comes to, what is left then, and whether two roads have just this call."""
    lot = [house]
    while left > 0:
        due = [far for far in calls if calls[far] == left and far not in lot and nearer[far] in lot]
        if len(due) != 1:
            return lot, left, len(due) > 1
        lot = lot + lots[due[0]]
        left -= valley.people_in(lot)
    return lot, left, False


def _last_break(valley, house, total, nearer, lots, calls):
    """What breaks at the innermost house, None if all comes out."""
    lot, left, twice = _take_in(valley, house, total, nearer, lots, calls)
    if twice or left != 0 or len(lot) < len(valley.houses()):
        return house, left
    return None


def _evening_of_calls(valley, calls):
    """The last road of a part has its least call: all others in it hear of more."""

    def last_of(part, _):
        return min(roads_inside(valley, part), key=lambda place: calls[place])

    held, _ = fall_apart(valley, last_of)
    return first_of(valley, held)
