"""Logs: with whom a house feasted for the first time, feast by feast, and what that tells."""

from math import factorial

from feasted.checks import need_evening, need_valley
from feasted.errors import BadLog, NoSuchLog
from feasted.kinds import is_list
from feasted.partings import hangs_together, join_up, roads_at, roads_inside


def log_of(valley, evening, house):
    need_valley(valley)
    came, _ = join_up(valley, need_evening(valley, evening))
    valley.need_house(house)
    log = []
    there = [house]
    for part in came:
        if house in part:
            log.append([far for far in part if far not in there])
            there = part
    return log


def evening_of_log(valley, house, log):
    if log_fault(valley, house, log) is not None:
        return None
    places = []
    there = [house]
    for some in log:
        places.extend(roads_inside(valley, some) + _places_from(valley, there, some))
        there = there + list(some)
    return roads_at(valley, places)


def log_fault(valley, house, log):
    need_valley(valley)
    valley.need_house(house)
    _need_log(valley, house, log)
    return _first_fault(valley, house, log)


def evenings_with_log(valley, house, log):
    if log_fault(valley, house, log) is not None:
        return 0
    orders = factorial(len(valley.roads()))
    so_far = 0
    for some in log:
        so_far += len(some)
        orders //= so_far
    return orders


def feasts_by_log(valley, house, log, other):
    need_valley(valley)
    valley.need_house(house)
    _need_log(valley, house, log)
    valley.need_house(other)
    fault = _first_fault(valley, house, log)
    if fault is not None:
        raise NoSuchLog(fault)
    if other == house:
        return len(log), len(log)
    index = [other in some for some in log].index(True)
    behind = len(log) - index
    beside = [far for far in valley.beside(other) if far in log[index]]
    return len(beside) + behind, len(log[index]) - 1 + behind


def _need_log(valley, house, log):
    if not is_list(log):
        raise BadLog(0)
    left = {far: True for far in valley.houses() if far != house}
    for index, some in enumerate(log):
        if not is_list(some) or len(some) == 0:
            raise BadLog(index)
        for far in some:
            if not isinstance(far, str) or far not in left:
                raise BadLog(index)
            del left[far]
    if left:
        raise BadLog(len(log))


def _first_fault(valley, house, log):
    there = [house]
    for index, some in enumerate(log):
        if not hangs_together(valley, some):
            return index, "apart"
        if not _places_from(valley, there, some):
            return index, "far"
        there = there + list(some)
    return None


def _places_from(valley, there, some):
    """The places of the roads from those who are there to some others."""
    both = [(one, other) for one in there for other in some]
    return [place for place, (one, other) in enumerate(valley.roads()) if (one, other) in both or (other, one) in both]
