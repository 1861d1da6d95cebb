"""In a row: how often each name was handed on tells the whole list at its end."""

from feasted.checks import need_valley
from feasted.errors import BadCounts, NoRow
from feasted.kinds import is_book, is_from_one
from feasted.partings import first_of, in_order


def evening_of_counts(valley, gate, counts):
    if counts_break(valley, gate, counts) is not None:
        return None
    outward = list(valley.nearer(gate))
    held = {}
    for at in range(1, len(outward)):
        part = outward[_begin(outward, counts, at):_end(outward, counts, at)]
        held[valley.place(outward[at - 1], outward[at])] = in_order(valley, part)
    return first_of(valley, held)


def counts_break(valley, gate, counts):
    need_valley(valley)
    valley.need_house(gate)
    _need_row(valley, gate)
    if not is_book(counts, [house for house in valley.houses() if house != gate], is_from_one):
        raise BadCounts(counts)
    most = 1
    for house in valley.nearer(gate):
        if house != gate:
            if counts[house] > most:
                return house
            most = counts[house] + 1
    return None


def _need_row(valley, gate):
    ends = [house for house in valley.houses() if len(valley.beside(house)) == 1]
    if gate not in ends or len(ends) != 2:
        raise NoRow(gate)


def _begin(outward, counts, at):
    """Where the part of a house's road inward begins: at the last house ahead that is handed on once less.

    Its road was opened later, and so were all that stand for the lesser counts ahead of it.
    """
    for ahead in reversed(range(1, at)):
        if counts[outward[ahead]] < counts[outward[at]]:
            return ahead
    return 0


def _end(outward, counts, at):
    """Where it ends: ahead of the first house behind that is handed on no more often, so by a later road."""
    for behind in range(at + 1, len(outward)):
        if counts[outward[behind]] <= counts[outward[at]]:
            return behind
    return len(outward)
