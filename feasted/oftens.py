"""How likely each number of a house's feasts is, and evenings that are drawn."""

from math import comb, factorial

from feasted.checks import is_no_function, need_valley
from feasted.desks import Desk
from feasted.errors import BadChooser, BadNumber, FeastError
from feasted.kinds import fraction, is_number


def chances_feasts(valley, house):
    need_valley(valley)
    valley.need_house(house)
    counts = _counts_seen_from(valley, house)
    every = factorial(len(valley.roads()))
    return {number: fraction(ways, every) for number, ways in enumerate(counts) if ways > 0}


def drawn_evening(valley, chooser):
    need_valley(valley)
    if is_no_function(chooser) or isinstance(chooser, (Desk, FeastError)):
        raise BadChooser(chooser)
    left = valley.roads()
    evening = []
    while left:
        index = chooser(len(left))
        if not is_number(index) or index >= len(left):
            raise BadNumber(index)
        evening.append(left.pop(index))
    return evening


def _counts_seen_from(valley, house):
    """The list of how many evenings give the house 0, 1, .. feasts.

    A TABLE tells, of some roads and of a moment with so many of them ahead of it, in how many orders they give so
    many feasts, if the latest road on the way to them is opened at that moment: table[ahead][feasts].
    """
    nearer = valley.nearer(house)
    tables = {far: [[1]] for far in nearer}
    for far in reversed(list(nearer)):
        toward = nearer[far]
        if toward is not None:
            tables[toward] = _both(tables[toward], _with_road(tables[far]))
    # At the house itself no road is on the way: the moment is ahead of all.
    return tables[house][0]


def _with_road(table):
    """Of the same roads and the one that leads to them."""
    found = []
    for ahead in range(len(table) + 1):
        counts = [0] * (len(table) + 1)
        if ahead > 0:
            # The road is opened ahead of the moment, at one of so many places: no feast.
            _add(counts, table[ahead - 1], ahead, 0)
        for later in range(ahead, len(table)):
            # The road is opened behind it: a feast, and the moment for all roads beyond.
            _add(counts, table[later], 1, 1)
        found.append(counts)
    return found


def _both(table, other):
    """Of two lots of roads beyond one house, mixed in all ways."""
    many = len(table) - 1
    more = len(other) - 1
    found = [[0] * (many + more + 1) for _ in range(many + more + 1)]
    for ahead in range(many + 1):
        for along in range(more + 1):
            ways = comb(ahead + along, along) * comb(many - ahead + more - along, more - along)
            for feasts, count in enumerate(table[ahead]):
                _add(found[ahead + along], other[along], ways * count, feasts)
    return found


def _add(counts, more, times, shift):
    for feasts, count in enumerate(more):
        counts[feasts + shift] += count * times
