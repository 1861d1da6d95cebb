"""Where a road can stand in the evenings that are alike to one, and how often it stands ahead of another road."""

from math import comb

from feasted.alikes import count_alike
from feasted.checks import need_evening, need_far, need_road, need_valley
from feasted.kinds import fraction
from feasted.partings import around, held_by


def ahead_share(valley, evening, road, far):
    held, holders, place = _begin(valley, evening, road)
    later = need_far(valley, far)
    mine = [holder for holder in holders[place] if holder not in holders[later]]
    theirs = [holder for holder in holders[later] if holder not in holders[place]]
    if not mine:
        return 0, 1
    if not theirs:
        return 1, 1
    return _share_ahead(_sizes(held, mine), _sizes(held, theirs))


def place_span(valley, evening, road):
    held, holders, place = _begin(valley, evening, road)
    return len(held[place]) - 2, len(held) - len(holders[place])


def place_counts(valley, evening, road):
    held, holders, place = _begin(valley, evening, road)
    shares = _shares_of_places(_sizes(held, holders[place]))
    each = count_alike(valley, evening) // sum(list(shares.values()))
    return {at: shares[at] * each for at in shares}


def mean_place(valley, evening, road):
    held, holders, place = _begin(valley, evening, road)
    shares = _shares_of_places(_sizes(held, holders[place]))
    return fraction(sum([at * shares[at] for at in shares]), sum(list(shares.values())))


def _begin(valley, evening, road):
    """The parts held, in whose parts each road lies, and the place of this one."""
    need_valley(valley)
    held = held_by(valley, need_evening(valley, evening))
    return held, around(valley, held), need_road(valley, road)


def _sizes(held, places):
    """How many roads lie in the parts of these, the least part first."""
    return sorted([len(held[place]) - 1 for place in places])


def _orders(many, more, place, ahead):
    """In how many ways so many roads and some more, each in their order, mix with so many of the latter ahead of
    the one at a place of the former."""
    return comb(place + ahead, ahead) * comb(many - 1 - place + more - ahead, more - ahead)


def _shares_of_places(sizes):
    """The dict from all places of a road to shares, from the sizes of the parts that it lies in, the least first."""
    shares = {sizes[0] - 1: 1}
    for many, whole in zip(sizes, sizes[1:]):
        # A part's own road comes last: all others in it mix with those of the lot within that we come from.
        more = whole - 1 - many
        mixed = {}
        for place in shares:
            for ahead in range(more + 1):
                ways = shares[place] * _orders(many, more, place, ahead)
                mixed[place + ahead] = mixed.get(place + ahead, 0) + ways
        shares = mixed
    return shares


def _share_ahead(mine, theirs):
    """The share of the mixes of two lots by which a road of the one is ahead of a road of the other one."""
    many = mine[-1]
    more = theirs[-1]
    shares = _shares_of_places(mine)
    others = _shares_of_places(theirs)
    ways = 0
    for place in shares:
        so_far = 0
        for ahead in range(more):
            so_far += _orders(many, more, place, ahead)
            ways += shares[place] * others.get(ahead, 0) * so_far
    every = sum(list(shares.values())) * sum(list(others.values())) * comb(many + more, more)
    return fraction(ways, every)
