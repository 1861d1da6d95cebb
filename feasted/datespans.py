"""Dates within spans: which evenings can be, and who is there by all of them, or by some."""

from feasted.checks import need_evening, need_valley
from feasted.kinds import fraction
from feasted.spans import is_surely_ahead, need_spans
from feasted.ways import places_between, rows_from


def surely_ahead(valley, spans):
    need_valley(valley)
    need_spans(valley, spans)
    roads = valley.roads()
    return [(road, later) for place, road in enumerate(roads) for far, later in enumerate(roads)
            if is_surely_ahead(spans, place, far)]


def can_be(valley, spans, evening):
    return bar_of(valley, spans, evening) is None


def dates_for(valley, spans, evening):
    if bar_of(valley, spans, evening) is not None:
        return None
    places = need_evening(valley, evening)
    dates = {}
    day = None
    for place in places:
        least = spans[place][0]
        if day is None or least > day:
            day = least
            since = 0
        # Each most so far ahead is a whole day later at least: shares of this one are never too late.
        dates[place] = fraction(day * len(places) + since, len(places))
        since += 1
    return [dates[place] for place in range(len(places))]


def bar_of(valley, spans, evening):
    need_valley(valley)
    need_spans(valley, spans)
    places = need_evening(valley, evening)
    roads = valley.roads()
    for at, place in enumerate(places):
        for later in places[at + 1:]:
            if is_surely_ahead(spans, later, place):
                return roads[place], roads[later]
    return None


def surely_there(valley, spans, one, other):
    rows, place = _rows_to(valley, spans, one, other)
    return [house for house in rows
            if all([is_surely_ahead(spans, far, place) for far in rows[house] if far != place])]


def perhaps_there(valley, spans, one, other):
    rows, place = _rows_to(valley, spans, one, other)
    return [house for house in rows if not any([is_surely_ahead(spans, place, far) for far in rows[house]])]


def joined_span(valley, spans, one, other):
    need_valley(valley)
    need_spans(valley, spans)
    way = places_between(valley, one, other)
    if not way:
        return None
    return max([spans[place][0] for place in way]), max([spans[place][1] for place in way])


def _rows_to(valley, spans, one, other):
    """The dict from all houses to their rows to the road of two houses, and its place."""
    need_valley(valley)
    need_spans(valley, spans)
    place = valley.place(one, other)
    return {house: rows_from(valley, house)[place] for house in valley.houses()}, place
