"""Nights: an evening, then a closing, and who is together for how many deeds."""

from feasted.checks import need_closing, need_evening, need_feasts, need_valley
from feasted.farewells import closing_of
from feasted.halves import evening_of_feasts, feasts_break
from feasted.kinds import is_book, is_number
from feasted.partings import join_up
from feasted.refusals import BadOthers
from feasted.tables import pairs_of
from feasted.ways import places_between


def together(valley, evening, closing, one, other):
    places, closed = _need_night(valley, evening, closing)
    return _deeds(valley, places, closed, one, other)


def longest(valley, evening, closing):
    places, closed = _need_night(valley, evening, closing)
    deeds = {(one, other): _deeds(valley, places, closed, one, other) for one, other in pairs_of(valley)}
    most = max(list(deeds.values()), default=0)
    return [pair for pair in deeds if deeds[pair] == most]


def night_of(valley, evening, closing, house):
    places, closed = _need_night(valley, evening, closing)
    valley.need_house(house)
    parted, _ = join_up(valley, closed[::-1])
    came, _ = join_up(valley, places)
    return [len(part) for part in came + parted[::-1] if house in part]


def night_of_numbers(valley, feasts, others):
    _need_numbers(valley, feasts, others)
    evening = evening_of_feasts(valley, feasts)
    closing = closing_of(valley, others)
    if evening is None or closing is None:
        return None
    return evening, closing


def night_break(valley, feasts, others):
    _need_numbers(valley, feasts, others)
    for which, numbers in (("evening", feasts), ("closing", others)):
        broken = feasts_break(valley, numbers)
        if broken is not None:
            return which, broken
    return None


def _need_night(valley, evening, closing):
    """The places of the roads as they are opened, and as they are closed."""
    need_valley(valley)
    places = need_evening(valley, evening)
    return places, need_closing(valley, closing)


def _need_numbers(valley, feasts, others):
    need_valley(valley)
    need_feasts(valley, feasts)
    if not is_book(others, valley.houses(), is_number):
        raise BadOthers(others)


def _deeds(valley, places, closed, one, other):
    """How many deeds there are from the one that joins two houses to the one that parts them; all for one house."""
    way = places_between(valley, one, other)
    joined = max([places.index(place) for place in way], default=0)
    parted = min([closed.index(place) for place in way], default=len(closed) - 1)
    return len(places) - joined + parted + 1
