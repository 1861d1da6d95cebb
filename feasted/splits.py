"""How many unlike evenings a part has as a valley by itself.

A LOT is a number here: a bit for each house of the part. SPLITS are the list, by places, of the triples (place, ends,
beyond) of the roads inside the part: ends are the bits of both its houses, beyond those on the side of the second one.
"""

from feasted.partings import roads_inside, two_lots


def bits_of(part):
    return {house: 1 << at for at, house in enumerate(part)}


def lot_of(bits, some):
    return sum([bits[house] for house in some])


def splits_of(valley, part):
    bits = bits_of(part)
    roads = valley.roads()
    splits = []
    for place in roads_inside(valley, part):
        _, beyond = two_lots(valley, part, place)
        splits.append((place, lot_of(bits, roads[place]), lot_of(bits, beyond)))
    return splits


def lots_apart(splits, lot):
    """The list of the triples (place, near, beyond) of the roads inside a lot, with the two lots that each parts."""
    return [(place, lot - (lot & beyond), lot & beyond) for place, ends, beyond in splits if lot & ends == ends]


def count_lot(splits, lot, known):
    """How many unlike evenings a lot has; known keeps them for the lots that have been counted."""
    if lot not in known:
        lots = lots_apart(splits, lot)
        ways = [count_lot(splits, near, known) * count_lot(splits, beyond, known) for _, near, beyond in lots]
        known[lot] = sum(ways) if ways else 1
    return known[lot]


def count_part(valley, part):
    return count_lot(splits_of(valley, part), lot_of(bits_of(part), part), {})
