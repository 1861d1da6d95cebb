"""Unlike evenings: how many there are, by their last road, and by the feasts of one house."""

from feasted.checks import need_valley
from feasted.kinds import fraction
from feasted.splits import bits_of, count_lot, count_part, lot_of, lots_apart, splits_of


def count_unlike(valley):
    need_valley(valley)
    return count_part(valley, valley.houses())


def count_last(valley, one, other):
    need_valley(valley)
    return count_part(valley, valley.side(one, other)) * count_part(valley, valley.side(other, one))


def count_by_feasts(valley, house):
    need_valley(valley)
    valley.need_house(house)
    bits = bits_of(valley.houses())
    splits = splits_of(valley, valley.houses())
    counts = _by_feasts(splits, lot_of(bits, valley.houses()), bits[house], {bits[house]: {0: 1}}, {})
    return {number: counts[number] for number in sorted(list(counts))}


def mean_of_unlike(valley, house):
    counts = count_by_feasts(valley, house)
    return fraction(sum([number * counts[number] for number in counts]), sum(list(counts.values())))


def _by_feasts(splits, lot, bit, found, known):
    """The dict from all numbers of feasts of one house in a lot to how many unlike evenings there are with it."""
    if lot not in found:
        counts = {}
        for _, near, beyond in lots_apart(splits, lot):
            mine, others = (near, beyond) if near & bit else (beyond, near)
            ways = count_lot(splits, others, known)
            inner = _by_feasts(splits, mine, bit, found, known)
            for number in inner:
                counts[number + 1] = counts.get(number + 1, 0) + inner[number] * ways
        found[lot] = counts
    return found[lot]
