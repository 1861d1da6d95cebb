"""What came behind a road's own feast, seen from its two sides."""

from feasted.checks import need_evening, need_valley
from feasted.partings import join_up


def history(valley, evening, one, other):
    need_valley(valley)
    places = need_evening(valley, evening)
    own = valley.place(one, other)
    roads = valley.roads()
    beyond = valley.side(one, other)
    came, _ = join_up(valley, places)
    told = []
    for at in reversed(range(places.index(own) + 1, len(places))):
        road = roads[places[at]]
        if one in came[at]:
            told.append((road, other if road[0] in beyond else one))
    return told
