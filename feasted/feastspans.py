"""Feasts by evenings that can be within spans of dates: of one house, and of all."""

from feasted.checks import need_feasts, need_valley
from feasted.errors import BadNumber
from feasted.exchanges import orders_between
from feasted.halves import feasts_break
from feasted.kinds import is_number
from feasted.partings import around, roads_at, roads_inside
from feasted.spans import first_in_order, is_surely_ahead, need_spans, needs_of
from feasted.ways import rows_from
from feasted.weights import parts_held


def feast_span(valley, spans, house):
    rows = _rows(valley, spans, house)
    least, _ = _fewest(spans, _beyond(rows), None, None, {})
    return least, len(_last_of_rows(spans, rows))


def evening_with(valley, spans, house, number):
    rows = _rows(valley, spans, house)
    if not is_number(number):
        raise BadNumber(number)
    _, pairs = _fewest(spans, _beyond(rows), None, None, {})
    fewest = first_in_order(_with_pairs(spans, pairs))
    ahead = [(place, last) for last in _last_of_rows(spans, rows) for place in rows[last] if place != last]
    most = first_in_order(_with_pairs(spans, ahead))
    # An exchange changes a house's feasts by one at most, so that all numbers between are passed.
    for order in orders_between(fewest, most):
        if _count(rows, order) == number:
            return roads_at(valley, order)
    return None


def evening_for(valley, spans, feasts):
    held = _need_held(valley, spans, feasts)
    if held is None:
        return None
    pairs = [(place, later) for later in held for place in roads_inside(valley, held[later]) if place != later]
    order = first_in_order(_with_pairs(spans, pairs))
    return None if order is None else roads_at(valley, order)


def feasts_bar(valley, spans, feasts):
    held = _need_held(valley, spans, feasts)
    if held is None:
        return feasts_break(valley, feasts)
    roads = valley.roads()
    holders = around(valley, held)
    for place, road in enumerate(roads):
        for later in sorted(holders[place]):
            if is_surely_ahead(spans, later, place):
                return "dates", road, roads[later]
    return None


def _rows(valley, spans, house):
    """The rows from a house to all roads."""
    need_valley(valley)
    need_spans(valley, spans)
    valley.need_house(house)
    return rows_from(valley, house)


def _need_held(valley, spans, feasts):
    """The parts held by the evenings with these feasts, None if there are none."""
    need_valley(valley)
    need_spans(valley, spans)
    need_feasts(valley, feasts)
    return parts_held(valley, feasts)


def _with_pairs(spans, pairs):
    """What each road needs ahead of it by the spans, and by pairs (ahead, later)."""
    needs = needs_of(spans)
    for ahead, later in pairs:
        needs[later].append(ahead)
    return needs


def _beyond(rows):
    """The dict from all roads, and from None, to those that come next behind them, from the house itself for None."""
    beyond = {None: []}
    for place in rows:
        beyond[place] = []
    for place in rows:
        toward = rows[place][-2] if len(rows[place]) > 1 else None
        beyond[toward].append(place)
    return beyond


def _last_of_rows(spans, rows):
    """The roads that are surely ahead of none of their row."""
    return [last for last in rows if not any([is_surely_ahead(spans, last, place) for place in rows[last]])]


def _count(rows, order):
    """How many roads are the last ones of their rows, each a feast."""
    ranks = {place: at for at, place in enumerate(order)}
    return len([last for last in rows if max([ranks[place] for place in rows[last]]) == ranks[last]])


def _fewest(spans, beyond, place, latest, known):
    """The fewest feasts at all roads beyond one, and pairs (ahead, later) by which there are no more.

    latest is the road of the row so far that is opened last, None at the house itself.
    """
    if (place, latest) not in known:
        feasts = 0
        pairs = []
        for far in beyond[place]:
            ways = []
            if latest is not None and spans[far][0] < spans[latest][1]:
                many, more = _fewest(spans, beyond, far, latest, known)
                ways.append((many, more + [(far, latest)]))
            if not ways or spans[far][1] > spans[latest][1]:
                many, more = _fewest(spans, beyond, far, far, known)
                ways.append((many + 1, more if latest is None else more + [(latest, far)]))
            many, more = min(ways, key=lambda way: way[0])
            feasts += many
            pairs = pairs + more
        known[(place, latest)] = feasts, pairs
    return known[(place, latest)]
