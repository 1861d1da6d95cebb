"""Spans of dates, and orders of roads in which some must be ahead of others. Roads stand here by their places."""

from feasted.errors import BadSpans
from feasted.kinds import is_integer, is_list, is_pair


def need_spans(valley, spans):
    if not is_list(spans):
        raise BadSpans(0)
    taken = set()
    for index, span in enumerate(spans):
        if index >= len(valley.roads()) or not _is_span(span):
            raise BadSpans(index)
        least, most = span
        if least == most:
            if least in taken:
                raise BadSpans(index)
            taken.add(least)
    if len(spans) < len(valley.roads()):
        raise BadSpans(len(spans))


def is_surely_ahead(spans, place, later):
    return place != later and spans[place][1] <= spans[later][0]


def needs_of(spans):
    """The dict from all places to the list of those that are surely ahead of them."""
    places = list(range(len(spans)))
    return {later: [place for place in places if is_surely_ahead(spans, place, later)] for later in places}


def first_in_order(needs):
    """The first order of all places in which each one stands behind those that it needs, None if there is none."""
    order = []
    done = set()
    while len(order) < len(needs):
        free = [place for place in needs if place not in done and all([ahead in done for ahead in needs[place]])]
        if not free:
            return None
        order.append(free[0])
        done.add(free[0])
    return order


def _is_span(thing):
    return is_pair(thing) and is_integer(thing[0]) and is_integer(thing[1]) and thing[0] <= thing[1]
