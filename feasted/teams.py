"""Teams: as many roads on a day as there are teams, and the evening that can be over soonest."""

from feasted.checks import need_evening, need_valley
from feasted.kinds import is_from_one
from feasted.partings import around, free_now, held_by, open_one, roads_at, waits_of
from feasted.refusals import BadTeams
from feasted.splits import bits_of, lot_of, lots_apart, splits_of


def plan_by_teams(valley, evening, teams):
    holders = _need_holders(valley, evening, teams)
    waits = waits_of(holders)
    plan = []
    while waits:
        day = sorted(free_now(waits), key=lambda place: -len(holders[place]))[:teams]
        for place in day:
            open_one(waits, holders, place)
        plan.append(roads_at(valley, sorted(day)))
    return plan


def crowd(valley, evening, teams):
    holders = _need_holders(valley, evening, teams)
    levels = {place: len(holders[place]) for place in holders}
    behind = 0
    most = _days_for(levels, 0, teams)
    for level in range(1, max(list(levels.values()), default=0)):
        if _days_for(levels, level, teams) > most:
            behind = level
            most = _days_for(levels, level, teams)
    return behind, roads_at(valley, [place for place in levels if levels[place] > behind])


def quickest(valley):
    need_valley(valley)
    shut = splits_of(valley, valley.houses())
    bits = bits_of(valley.houses())
    every = lot_of(bits, valley.houses())
    days = {bits[house]: 0 for house in bits}
    least = _least_days(shut, every, days, {})
    order = []
    while shut:
        for split in shut:
            left = [far for far in shut if far != split]
            behind = _days_behind(days, split)
            if _least_days(left, every, behind, {}) == least:
                break
        order.append(split[0])
        shut = left
        days = behind
    return roads_at(valley, order)


def _need_holders(valley, evening, teams):
    """In whose parts each road lies."""
    need_valley(valley)
    places = need_evening(valley, evening)
    if not is_from_one(teams):
        raise BadTeams(teams)
    return around(valley, held_by(valley, places))


def _days_for(levels, behind, teams):
    """How many days all roads above a level need, and those still to come behind them."""
    many = len([place for place in levels if levels[place] > behind])
    return behind + (many + teams - 1) // teams


def _days_behind(days, split):
    """The days that all lots have taken, once a road is opened at the earliest."""
    _, ends, _ = split
    one, other = [lot for lot in days if lot & ends]
    behind = {lot: days[lot] for lot in days if not lot & ends}
    behind[one + other] = 1 + max(days[one], days[other])
    return behind


def _least_days(shut, lot, days, known):
    """The least days that a lot can have taken once all its roads are open; known keeps them."""
    if lot not in known:
        lots = lots_apart(shut, lot)
        ways = [max(_least_days(shut, near, days, known), _least_days(shut, beyond, days, known))
                for _, near, beyond in lots]
        known[lot] = 1 + min(ways) if ways else days[lot]
    return known[lot]
