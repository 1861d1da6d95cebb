"""What the feasts alone tell: a part's last road halves its weight."""

from feasted.checks import need_feasts, need_some, need_valley
from feasted.errors import BadPart
from feasted.kinds import first_stranger, is_list
from feasted.partings import by_roads, first_of, hangs_together
from feasted.weights import halved_at, lots_held, parts_held, weigh, weights_of


def weight(valley, feasts, some):
    need_valley(valley)
    need_feasts(valley, feasts)
    need_some(valley, some)
    return weigh(feasts, some)


def halving(valley, feasts, part):
    need_valley(valley)
    need_feasts(valley, feasts)
    _need_part(valley, part)
    weights, _ = weights_of(feasts)
    place = halved_at(valley, weights, part)
    return None if place is None else valley.roads()[place]


def evening_of_feasts(valley, feasts):
    need_valley(valley)
    need_feasts(valley, feasts)
    held = parts_held(valley, feasts)
    return None if held is None else first_of(valley, held)


def feasts_break(valley, feasts):
    need_valley(valley)
    need_feasts(valley, feasts)
    together = weigh(feasts, valley.houses())
    if together != (1, 1):
        return "sum", together
    _, part = lots_held(valley, feasts, [valley.houses()])
    return None if part is None else ("part", part)


def parts_of_feasts(valley, feasts):
    need_valley(valley)
    need_feasts(valley, feasts)
    held = parts_held(valley, feasts)
    return None if held is None else by_roads(valley, held)


def last_road(valley, feasts):
    need_valley(valley)
    need_feasts(valley, feasts)
    held = parts_held(valley, feasts)
    if not held:
        return None
    return first_of(valley, held)[-1]


def _need_part(valley, part):
    if not is_list(part) or len(part) == 0 or first_stranger(part, valley.houses()) is not None:
        raise BadPart(part)
    if not hangs_together(valley, part):
        raise BadPart(part)
