"""Common feasts of some pairs alone: the evenings that are left."""

from feasted.checks import need_valley
from feasted.errors import BadPairs
from feasted.kinds import is_number, keys_lacking
from feasted.partings import first_places, roads_at, roads_inside, two_lots
from feasted.tables import pairs_of


def count_by_pairs(valley, pairs):
    return len(_all_held(valley, pairs))


def evening_by_pairs(valley, pairs):
    found = _all_held(valley, pairs)
    if not found:
        return None
    return roads_at(valley, min([first_places(valley, held) for held in found]))


def _all_held(valley, pairs):
    """What is held by all evenings that are left, no two of them alike."""
    need_valley(valley)
    if keys_lacking(pairs, pairs_of(valley), is_number) is None:
        raise BadPairs(pairs)
    return _held_so(valley, pairs, valley.houses(), 0)


def _held_so(valley, pairs, part, depth):
    """What a part can hold with so many parts around it."""
    if len(part) == 1:
        return [{}]
    found = []
    for place in roads_inside(valley, part):
        near, beyond = two_lots(valley, part, place)
        if _parted_so(pairs, near, beyond, depth + 1):
            mine = _held_so(valley, pairs, near, depth + 1)
            theirs = _held_so(valley, pairs, beyond, depth + 1)
            found.extend([{place: part, **here, **there} for here in mine for there in theirs])
    return found


def _parted_so(pairs, near, beyond, number):
    """Whether all pairs that stand in both lots have this number: no later feast is theirs."""
    for one, other in pairs:
        apart = (one in near and other in beyond) or (one in beyond and other in near)
        if apart and pairs[(one, other)] != number:
            return False
    return True
