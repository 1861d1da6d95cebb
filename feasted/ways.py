"""Which roads lie on a way: between two houses, and from a house to a road."""


def places_between(valley, one, other):
    """The places of the roads on the way from one house to another."""
    way = valley.way(one, other)
    return [valley.place(here, there) for here, there in zip(way, way[1:])]


def rows_from(valley, house):
    """The dict from the places of all roads to the row from a house to that road, as places, its own last."""
    nearer = valley.nearer(house)
    reached = {house: []}
    rows = {}
    for far in nearer:
        if far != house:
            place = valley.place(nearer[far], far)
            reached[far] = reached[nearer[far]] + [place]
            rows[place] = reached[far]
    return rows
