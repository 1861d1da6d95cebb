"""Whose logs together tell a whole evening."""

from feasted.checks import need_evening, need_valley
from feasted.errors import BadLot
from feasted.kinds import first_stranger, is_list
from feasted.logs import log_of
from feasted.partings import in_order, join_up
from feasted.splits import count_part


def see_alike(valley, evening, other_evening, lot):
    need_valley(valley)
    need_evening(valley, evening)
    need_evening(valley, other_evening)
    _need_lot(valley, lot)
    return all([log_of(valley, evening, house) == log_of(valley, other_evening, house) for house in lot])


def unseen(valley, evening, lot):
    need_valley(valley)
    came, _ = join_up(valley, need_evening(valley, evening))
    _need_lot(valley, lot)
    groups = {}
    # A part that came later lies in no earlier one.
    for part in reversed(came):
        if not any([house in lot or house in groups for house in part]):
            for house in part:
                groups[house] = part
    return [groups[house] for house in valley.houses() if house in groups and groups[house][0] == house]


def count_unseen(valley, evening, lot):
    ways = 1
    for group in unseen(valley, evening, lot):
        ways *= count_part(valley, group)
    return ways


def tell_evening(valley, evening, lot):
    return all([len(group) < 3 for group in unseen(valley, evening, lot)])


def fewest_writers(valley, evening):
    need_valley(valley)
    came, _ = join_up(valley, need_evening(valley, evening))
    writers = []
    for part in came:
        # Who has three houses or more in an earlier part has a writer there.
        if len(part) > 2 and not any([house in part for house in writers]):
            writers.append(part[0])
    return in_order(valley, writers)


def tell_always(valley, lot):
    need_valley(valley)
    _need_lot(valley, lot)
    silent = [house for house in valley.houses() if house not in lot]
    return all([len([far for far in valley.beside(house) if far in silent]) < 2 for house in silent])


def always_writers(valley):
    return in_order(valley, list(_threes_by_writers(valley)))


def apart_threes(valley):
    threes = _threes_by_writers(valley)
    return [threes[house] for house in in_order(valley, list(threes))]


def _need_lot(valley, lot):
    if not is_list(lot):
        raise BadLot(0)
    index = first_stranger(lot, valley.houses())
    if index is not None:
        raise BadLot(index)


def _threes_by_writers(valley):
    """From the rims inward: as soon as a house has three or more silent ones hanging on it, itself too, it writes."""
    need_valley(valley)
    nearer = valley.nearer(valley.houses()[0])
    hanging = {house: [house] for house in nearer}
    threes = {}
    for house in reversed(list(nearer)):
        lot = hanging[house]
        if len(lot) > 2:
            # Behind the house comes one beside it, then one beside either of both.
            one, other, third = in_order(valley, lot[:3])
            threes[house] = (one, other, third)
        elif nearer[house] is not None:
            hanging[nearer[house]].extend(lot)
    return threes
