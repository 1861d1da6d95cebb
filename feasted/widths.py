"""Widths of roads: how many people live in their parts."""

from feasted.checks import need_evening, need_feasts, need_valley
from feasted.errors import BadWidths
from feasted.kinds import is_book, is_from_one
from feasted.partings import feasts_from, first_of, held_by
from feasted.weights import parts_held
from feasted.widest import held_by_widths, widest_in, widths_from


def widths_of(valley, evening):
    need_valley(valley)
    places = need_evening(valley, evening)
    return widths_from(valley, held_by(valley, places))


def evening_of_widths(valley, widths):
    held, _ = _fall_by_widths(valley, widths)
    return None if held is None else first_of(valley, held)


def widths_break(valley, widths):
    _, part = _fall_by_widths(valley, widths)
    return None if part is None else (part, widest_in(valley, widths, part))


def feasts_by_widths(valley, widths):
    held, _ = _fall_by_widths(valley, widths)
    return None if held is None else feasts_from(valley, held)


def widths_by_feasts(valley, feasts):
    need_valley(valley)
    need_feasts(valley, feasts)
    held = parts_held(valley, feasts)
    return None if held is None else widths_from(valley, held)


def need_widths(valley, widths):
    if not is_book(widths, valley.roads(), is_from_one):
        raise BadWidths(widths)


def _fall_by_widths(valley, widths):
    need_valley(valley)
    need_widths(valley, widths)
    return held_by_widths(valley, widths)
