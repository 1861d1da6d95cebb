"""Widths of which one lacks, or is wrong."""

from feasted.checks import need_rest, need_valley
from feasted.widest import held_by_widths, widest_in, widths_from
from feasted.widths import need_widths


def width_lacking(valley, rest):
    need_valley(valley)
    road = need_rest(valley, rest)
    return _due(valley, rest, road)


def rest_break(valley, rest):
    need_valley(valley)
    need_rest(valley, rest)
    _, part = held_by_widths(valley, rest)
    return None if part is None else (part, widest_in(valley, rest, part))


def wrong_widths(valley, widths):
    need_valley(valley)
    need_widths(valley, widths)
    found = []
    for road in valley.roads():
        due = _due(valley, {far: widths[far] for far in widths if far != road}, road)
        if due is not None and due != widths[road]:
            found.append((road, due))
    return found


def _due(valley, rest, road):
    """The width with which the road that lacks makes the others some evening's, None if there is none."""
    held, _ = held_by_widths(valley, rest)
    return None if held is None else widths_from(valley, held)[road]
