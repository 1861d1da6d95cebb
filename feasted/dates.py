"""Dates on which the roads are opened."""

from math import lcm

from feasted.checks import need_valley
from feasted.errors import BadDate, BadDates
from feasted.kinds import fraction, is_from_one, is_integer, is_list, is_pair
from feasted.partings import feasts_from, held_by, roads_at
from feasted.ways import places_between


def evening_of_dates(valley, dates):
    need_valley(valley)
    _need_dates(valley, dates)
    return roads_at(valley, _rising(dates))


def joined_on(valley, dates, one, other):
    need_valley(valley)
    _need_dates(valley, dates)
    way = places_between(valley, one, other)
    latest = [place for place in _rising(dates) if place in way][-1:]
    if not latest:
        return None
    top, bottom = dates[latest[0]]
    return fraction(top, bottom)


def feasts_till(valley, dates, date):
    need_valley(valley)
    _need_dates(valley, dates)
    if not _is_date(date):
        raise BadDate(date)
    top, bottom = date
    due = [place for place in _rising(dates) if dates[place][0] * bottom <= top * dates[place][1]]
    return feasts_from(valley, held_by(valley, due))


def _is_date(thing):
    return is_pair(thing) and is_integer(thing[0]) and is_from_one(thing[1])


def _need_dates(valley, dates):
    if not is_list(dates):
        raise BadDates(0)
    seen = set()
    for index, date in enumerate(dates):
        if index >= len(valley.roads()) or not _is_date(date):
            raise BadDates(index)
        worth = fraction(date[0], date[1])
        if worth in seen:
            raise BadDates(index)
        seen.add(worth)
    if len(dates) < len(valley.roads()):
        raise BadDates(len(dates))


def _rising(dates):
    """The places of the roads, the earliest first."""
    whole = 1
    for _, bottom in dates:
        whole = lcm(whole, bottom)
    return sorted(range(len(dates)), key=lambda place: dates[place][0] * (whole // dates[place][1]))
