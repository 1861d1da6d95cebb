"""Weights as integers: so many of the least weight that there is."""

from feasted.kinds import fraction
from feasted.partings import lots_fall_apart


def weights_of(feasts):
    """The pair of the dict from houses to weights, and of what 1 is then."""
    deepest = max(list(feasts.values()), default=0)
    return {house: 1 << (deepest - feasts[house]) for house in feasts}, 1 << deepest


def weigh(feasts, some):
    """What some houses weigh together, a fraction."""
    weights, whole = weights_of(feasts)
    return fraction(sum([weights[house] for house in some]), whole)


def halved_at(valley, weights, part):
    """The place of the road that halves a part, None if there is none."""
    whole = sum([weights[house] for house in part])
    below = {house: weights[house] for house in part}
    nearer = valley.nearer(part[0])
    for house in reversed(list(nearer)):
        toward = nearer[house]
        if house not in below or toward is None:
            continue
        if 2 * below[house] == whole:
            return valley.place(house, toward)
        below[toward] += below[house]
    return None


def lots_held(valley, feasts, lots):
    """The pair of the parts held within some lots and of the first part that nothing halves, one of them None."""
    weights, _ = weights_of(feasts)
    return lots_fall_apart(valley, lots, lambda part, _: halved_at(valley, weights, part))


def parts_held(valley, feasts):
    """The parts held by the evenings with these feasts, None if there are none."""
    # No house feasts more often than there are roads: what is greater need not be weighed.
    if max(list(feasts.values())) > len(valley.roads()):
        return None
    if weigh(feasts, valley.houses()) != (1, 1):
        return None
    held, _ = lots_held(valley, feasts, [valley.houses()])
    return held
