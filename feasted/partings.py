"""How a valley comes together, and falls apart again, road by road.

Roads stand here by their places. HELD is a dict from the places of all roads to their parts.
"""


def in_order(valley, some):
    members = set(some)
    return [house for house in valley.houses() if house in members]


def roads_inside(valley, part):
    """The places of the roads with both ends in a part."""
    members = set(part)
    return [place for place, (one, other) in enumerate(valley.roads()) if one in members and other in members]


def hangs_together(valley, some):
    """Of one or more unlike houses: without rings, roads join all just if they are one less."""
    return len(roads_inside(valley, some)) == len(some) - 1


def two_lots(valley, part, place):
    """What a road makes of a part: the lot on the side of its first house, and the other one."""
    one, other = valley.roads()[place]
    beyond = set(valley.side(one, other))
    return [house for house in part if house not in beyond], [house for house in part if house in beyond]


def join_up(valley, places):
    """The list of the parts that come about, one for each road, and the dict from houses to the parts at last."""
    lots = {house: [house] for house in valley.houses()}
    roads = valley.roads()
    came = []
    for place in places:
        one, other = roads[place]
        part = in_order(valley, lots[one] + lots[other])
        for house in part:
            lots[house] = part
        came.append(part)
    return came, lots


def lots_behind_all(valley, places):
    """The parts that are joined by roads at last, by their first houses."""
    _, lots = join_up(valley, places)
    return [lots[house] for house in valley.houses() if lots[house][0] == house]


def held_by(valley, places):
    """The parts of all roads by an evening."""
    came, _ = join_up(valley, places)
    return {place: came[at] for at, place in enumerate(places)}


def by_roads(valley, held):
    """The parts as they are told: by the roads, in the order of their places."""
    return {road: list(held[place]) for place, road in enumerate(valley.roads())}


def around(valley, held):
    """The dict from the places held to the list of those whose parts hold the part of that road, its own with them."""
    holders = {place: [] for place in sorted(list(held))}
    for place in held:
        for inside in roads_inside(valley, held[place]):
            holders[inside].append(place)
    return holders


def feasts_from(valley, held):
    counts = {house: 0 for house in valley.houses()}
    for place in held:
        for house in held[place]:
            counts[house] += 1
    return counts


def waits_of(holders):
    """The dict from the same places to how many roads lie in that road's part, its own with them."""
    waits = {place: 0 for place in holders}
    for place in holders:
        for holder in holders[place]:
            waits[holder] += 1
    return waits


def free_now(waits):
    """Of the roads left, those that wait for none but themselves, the least place first."""
    return [place for place in waits if waits[place] == 1]


def open_one(waits, holders, place):
    """One of the roads left is opened: those in whose parts it lies wait for one less."""
    for holder in holders[place]:
        waits[holder] -= 1
    del waits[place]


def first_places(valley, held):
    """The places of the first evening, or begun one, by which all roads held have these parts."""
    holders = around(valley, held)
    waits = waits_of(holders)
    order = []
    while waits:
        order.append(free_now(waits)[0])
        open_one(waits, holders, order[-1])
    return order


def roads_at(valley, places):
    roads = valley.roads()
    return [roads[place] for place in places]


def first_of(valley, held):
    """The first evening by which all roads have these parts."""
    return roads_at(valley, first_places(valley, held))


def first_unlike(places, was, held):
    """The first of some roads whose part was another one than it holds, None if there is none."""
    for place in places:
        if place not in held or was[place] != held[place]:
            return place
    return None


def fall_apart(valley, last_of):
    """Take all houses apart, as lots_fall_apart does."""
    return lots_fall_apart(valley, [valley.houses()], last_of)


def lots_fall_apart(valley, lots, last_of):
    """Take lots apart, road by road, what lies on the side of a road's first house ahead of what lies beyond.

    last_of(part, depth) tells the place of a part's last road, None if it has none; depth is how many parts
    are around. What comes out is the pair of the parts held, None unless all fell apart, and of the first part
    without a last road, None if there is none.
    """
    held = {}
    waiting = [(part, 0) for part in reversed(lots)]
    while waiting:
        part, depth = waiting.pop()
        if len(part) == 1:
            continue
        place = last_of(part, depth)
        if place is None:
            return None, part
        held[place] = part
        near, beyond = two_lots(valley, part, place)
        waiting.append((beyond, depth + 1))
        waiting.append((near, depth + 1))
    return held, None


def only_one(found, inside, lacking):
    """The only road that was found; if there is none, the one of which nothing is known, if it lies inside."""
    if not found and lacking in inside:
        return lacking
    if len(found) == 1:
        return found[0]
    return None
