"""A part's last road is as wide as the part: all known widths, or all but one."""

from feasted.partings import fall_apart, only_one, roads_inside


def widths_from(valley, held):
    """The dict from all roads, by their places, to how many people live in their parts."""
    return {road: valley.people_in(held[place]) for place, road in enumerate(valley.roads())}


def widest_in(valley, widths, part):
    """The roads with both ends in a part that are known to be as wide as it."""
    roads = valley.roads()
    people = valley.people_in(part)
    inside = [roads[place] for place in roads_inside(valley, part)]
    return [road for road in inside if road in widths and widths[road] == people]


def held_by_widths(valley, widths):
    """The pair of the parts held by these widths and of the first part without one widest road, one of them None.

    A road of which no width is known, if there is one, has whatever width is due.
    """
    roads = valley.roads()
    lacking = [road for road in roads if road not in widths]

    def last_of(part, _):
        inside = [roads[place] for place in roads_inside(valley, part)]
        road = only_one(widest_in(valley, widths, part), inside, lacking[0] if lacking else None)
        return None if road is None else roads.index(road)

    return fall_apart(valley, last_of)
