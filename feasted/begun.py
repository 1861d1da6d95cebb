"""Evenings half over: which roads are open already, by the feasts so far."""

from feasted.checks import begun_places, need_begun, need_feasts, need_valley
from feasted.partings import feasts_from, first_of, held_by, lots_behind_all, roads_at
from feasted.weights import lots_held, weigh


def is_begun(valley, thing):
    need_valley(valley)
    return begun_places(valley, thing) is not None


def feasts_so_far(valley, begun):
    need_valley(valley)
    return feasts_from(valley, held_by(valley, need_begun(valley, begun)))


def lots(valley, begun):
    need_valley(valley)
    return lots_behind_all(valley, need_begun(valley, begun))


def is_open(valley, feasts, one, other):
    need_valley(valley)
    need_feasts(valley, feasts)
    return _is_open_at(valley, feasts, valley.place(one, other))


def open_roads(valley, feasts):
    need_valley(valley)
    need_feasts(valley, feasts)
    return roads_at(valley, _open_places(valley, feasts))


def begun_of_feasts(valley, feasts):
    need_valley(valley)
    need_feasts(valley, feasts)
    held, _ = held_or_break(valley, feasts)
    return None if held is None else first_of(valley, held)


def begun_break(valley, feasts):
    need_valley(valley)
    need_feasts(valley, feasts)
    _, broken = held_or_break(valley, feasts)
    return broken


def held_or_break(valley, feasts):
    """The pair of the parts held by begun evenings with these feasts and of the break, one of them None."""
    joined = lots_behind_all(valley, _open_places(valley, feasts))
    for lot in joined:
        together = weigh(feasts, lot)
        if together != (1, 1):
            return None, ("lot", lot, together)
    held, part = lots_held(valley, feasts, joined)
    return held, None if part is None else ("part", part)


def _open_places(valley, feasts):
    return [place for place in range(len(valley.roads())) if _is_open_at(valley, feasts, place)]


def _is_open_at(valley, feasts, place):
    one, other = valley.roads()[place]
    _, bottom = weigh(feasts, valley.side(other, one))
    return bottom > 1
