"""Two valleys joined by a road, both sides of a road, and how their evenings are mixed."""

from math import comb

from feasted.checks import need_evening, need_two, need_valley
from feasted.kinds import is_list, is_number
from feasted.partings import join_up, roads_at, roads_inside
from feasted.refusals import BadJoin
from feasted.valleys import Valley


def joined_valley(first, second, house, far):
    need_two(first, second, house, far)
    roads = first.roads() + second.roads() + [(house, far)]
    return Valley(first.houses() + second.houses(), roads, first.heads() + second.heads())


def side_valley(valley, one, other):
    need_valley(valley)
    valley.place(one, other)
    houses = valley.side(other, one)
    heads = [valley.people_in([house]) for house in houses]
    return Valley(houses, roads_at(valley, roads_inside(valley, houses)), heads)


def side_evening(valley, evening, one, other):
    need_valley(valley)
    places = need_evening(valley, evening)
    valley.place(one, other)
    return roads_at(valley, _own_places(valley, places, one, other))


def join_of(valley, evening, one, other):
    need_valley(valley)
    places = need_evening(valley, evening)
    at = places.index(valley.place(one, other))
    mine = _own_feasts(valley, places, one, other)
    theirs = _own_feasts(valley, places, other, one)
    ahead = places[:at]
    rest = ["mine" if place in mine else "theirs" for place in places[at:] if place in mine or place in theirs]
    return len([place for place in ahead if place in mine]), len([place for place in ahead if place in theirs]), rest


def joint_evening(first, evening, second, other_evening, house, far, join):
    mine, theirs = _need_stretches(first, evening, second, other_evening, house, far)
    _need_join(join, len(mine) - 1, len(theirs) - 1)
    many, more, rest = join
    joint = mine[:many] + theirs[:more] + [[(house, far)]]
    for word in rest:
        if word == "mine":
            joint.append(mine[many])
            many += 1
        else:
            joint.append(theirs[more])
            more += 1
    joint = joint + [mine[-1], theirs[-1]]
    return [road for stretch in joint for road in stretch]


def count_joins(first, evening, second, other_evening, house, far):
    mine, theirs = _need_stretches(first, evening, second, other_evening, house, far)
    return comb(len(mine) + len(theirs), len(mine)) - 1


def _own_places(valley, places, one, other):
    """The places of the roads on one's own side, as they are opened."""
    own = roads_inside(valley, valley.side(other, one))
    return [place for place in places if place in own]


def _own_feasts(valley, places, one, other):
    """The places of the roads that are one's own feasts, as they come."""
    own = _own_places(valley, places, one, other)
    came, _ = join_up(valley, own)
    return [place for place, part in zip(own, came) if one in part]


def _need_stretches(first, evening, second, other_evening, house, far):
    """Both evenings, cut behind each feast of the house, of far."""
    need_two(first, second, house, far)
    places = need_evening(first, evening)
    others = need_evening(second, other_evening)
    return _stretches(first, places, house), _stretches(second, others, far)


def _stretches(valley, places, house):
    """The list of the lists of roads up to each feast of a house, and of those behind the last one."""
    came, _ = join_up(valley, places)
    stretches = [[]]
    for road, part in zip(roads_at(valley, places), came):
        stretches[-1].append(road)
        if house in part:
            stretches.append([])
    return stretches


def _need_join(join, most, others):
    """A join of one who has so many own feasts in all, and of another one."""
    if not is_list(join) or len(join) != 3:
        raise BadJoin(join)
    mine, theirs, rest = join
    if not is_number(mine) or not is_number(theirs) or not is_list(rest):
        raise BadJoin(join)
    my_rest = [word for word in rest if word == "mine"]
    their_rest = [word for word in rest if word == "theirs"]
    if len(my_rest) != most - mine or len(their_rest) != others - theirs or len(rest) != len(my_rest + their_rest):
        raise BadJoin(join)
