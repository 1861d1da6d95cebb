"""Bread: how many loaves are eaten, who brings them, and what is left of what each house took along."""

from feasted.checks import need_evening, need_valley
from feasted.kinds import added_up, fraction, is_book, is_number
from feasted.partings import feasts_from, held_by, two_lots
from feasted.refusals import BadHeaps


def loaves(valley, evening):
    held = _held(valley, evening)
    return sum([valley.people_in(held[place]) for place in held])


def bringers(valley, evening):
    held = _held(valley, evening)
    counts = {house: 0 for house in valley.houses()}
    for place in held:
        for house in _who_bring(valley, held[place], place):
            counts[house] += 1
    return counts


def leavings(valley, evening, heaps):
    held = _held(valley, evening)
    if not is_book(heaps, valley.houses(), is_number):
        raise BadHeaps(heaps)
    feasts = feasts_from(valley, held)
    return {house: fraction(heaps[house], 1 << feasts[house]) for house in feasts}


def left_together(valley, evening, heaps):
    left = leavings(valley, evening, heaps)
    return added_up([left[house] for house in left])


def _held(valley, evening):
    need_valley(valley)
    return held_by(valley, need_evening(valley, evening))


def _who_bring(valley, part, place):
    """The lot of a part on that side of its road where fewer people live, if as many the one with its first house."""
    lots = two_lots(valley, part, place)
    near, beyond = [valley.people_in(lot) for lot in lots]
    if near == beyond:
        return [lot for lot in lots if part[0] in lot][0]
    return lots[0] if near < beyond else lots[1]
