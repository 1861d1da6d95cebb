"""Days: roads are opened on one day if it makes no difference which of them is first."""

from feasted.checks import need_evening, need_valley
from feasted.kinds import is_list, is_number
from feasted.partings import around, held_by, roads_at
from feasted.refusals import BadDays


def is_plan(valley, evening, thing):
    _, holders = _begin(valley, evening)
    day_of = _days_of_plan(valley, thing)
    if day_of is None:
        return False
    return all([day_of[place] < day_of[holder] for place in holders for holder in holders[place] if holder != place])


def fewest_days(valley, evening):
    return len(earliest_plan(valley, evening))


def earliest_plan(valley, evening):
    places, holders = _begin(valley, evening)
    day_of = _earliest(places, holders)
    plan = []
    for day in range(1, _last_day(day_of) + 1):
        plan.append(roads_at(valley, [place for place in sorted(places) if day_of[place] == day]))
    return plan


def day_spans(valley, evening, days):
    places, holders = _begin(valley, evening)
    _need_days(days)
    day_of = _earliest(places, holders)
    if days < _last_day(day_of):
        return None
    return {road: (day_of[place], days - len(holders[place]) + 1) for place, road in enumerate(valley.roads())}


def count_days(valley, evening, days):
    need_valley(valley)
    places = need_evening(valley, evening)
    _need_days(days)
    held = held_by(valley, places)
    roads = valley.roads()
    # In how many ways the roads of a house's lot so far have days up to 0, 1, .. days.
    ways = {house: [1] * (days + 1) for house in valley.houses()}
    for place in places:
        one, other = roads[place]
        ways_up_to = [0]
        for day in range(days):
            ways_up_to.append(ways_up_to[-1] + ways[one][day] * ways[other][day])
        for house in held[place]:
            ways[house] = ways_up_to
    return ways[valley.houses()[0]][days]


def _begin(valley, evening):
    """The places of the evening's roads, and in whose parts each road lies."""
    need_valley(valley)
    places = need_evening(valley, evening)
    return places, around(valley, held_by(valley, places))


def _need_days(days):
    if not is_number(days):
        raise BadDays(days)


def _days_of_plan(valley, thing):
    """The dict from the places of all roads to their days, None for what is no list of days of them."""
    if not is_list(thing):
        return None
    day_of = {}
    for day, some in enumerate(thing):
        if not is_list(some) or len(some) == 0:
            return None
        for road in some:
            if not valley.is_road(road) or valley.place(road[0], road[1]) in day_of:
                return None
            day_of[valley.place(road[0], road[1])] = day
    return day_of if len(day_of) == len(valley.roads()) else None


def _earliest(places, holders):
    """The dict from the places of all roads to the earliest days that they can have, from 1 on."""
    day_of = {place: 1 for place in places}
    for place in places:
        for holder in holders[place]:
            if holder != place:
                day_of[holder] = max(day_of[holder], day_of[place] + 1)
    return day_of


def _last_day(day_of):
    return max(list(day_of.values()), default=0)
