"""Functions that open the roads: whichever they like, or towards given feasts."""

from feasted.checks import is_no_function, need_feasts, need_valley
from feasted.halves import feasts_break
from feasted.partings import around, free_now, lots_behind_all, open_one, roads_at, waits_of
from feasted.refusals import BadAnswer, BadOpener, NoEvening
from feasted.weights import parts_held


def opened_by(valley, opener):
    need_valley(valley)
    _need_opener(opener)
    left = list(range(len(valley.roads())))
    places = []
    while left:
        answer = opener(roads_at(valley, places), lots_behind_all(valley, places))
        place = _need_answer(valley, left, answer)
        left.remove(place)
        places.append(place)
    return roads_at(valley, places)


def opened_for(valley, feasts, opener):
    need_valley(valley)
    need_feasts(valley, feasts)
    _need_opener(opener)
    held = parts_held(valley, feasts)
    if held is None:
        raise NoEvening(feasts_break(valley, feasts))
    holders = around(valley, held)
    waits = waits_of(holders)
    places = []
    while waits:
        free = free_now(waits)
        answer = opener(roads_at(valley, places), roads_at(valley, free))
        place = _need_answer(valley, free, answer)
        open_one(waits, holders, place)
        places.append(place)
    return roads_at(valley, places)


def _need_opener(opener):
    if is_no_function(opener):
        raise BadOpener(opener)


def _need_answer(valley, let, answer):
    """The place of the road that is told, one of those that are let."""
    if not valley.is_road(answer) or valley.place(answer[0], answer[1]) not in let:
        raise BadAnswer(answer)
    return valley.place(answer[0], answer[1])
