"""Valleys: houses, the roads between them, and how many people live there."""

from feasted.errors import BadHeads, BadHouses, BadRoads, NoHouse, NoRoad
from feasted.kinds import is_from_one, is_list, is_name, is_pair


class Valley:
    def __init__(self, houses, roads, heads):
        _need_houses(houses)
        _need_roads(houses, roads)
        _need_heads(houses, heads)
        self._houses = list(houses)
        self._roads = [(one, other) for one, other in roads]
        self._heads = list(heads)
        self._people = {house: heads[index] for index, house in enumerate(houses)}
        self._places = _both_ways(self._roads)
        self._beside = _neighbours(self._houses, self._roads)

    def __eq__(self, other):
        if not isinstance(other, Valley):
            return False
        return self._houses == other._houses and self._roads == other._roads and self._heads == other._heads

    def houses(self):
        return list(self._houses)

    def roads(self):
        return list(self._roads)

    def heads(self):
        return list(self._heads)

    def beside(self, house):
        self.need_house(house)
        return list(self._beside[house])

    def way(self, one, other):
        self.need_house(one)
        self.need_house(other)
        nearer = self.nearer(other)
        through = [one]
        while through[-1] != other:
            through.append(nearer[through[-1]])
        return through

    def side(self, one, other):
        self.place(one, other)
        there = {other: True}
        waiting = [other]
        while waiting:
            house = waiting.pop()
            for far in self._beside[house]:
                if far != one and far not in there:
                    there[far] = True
                    waiting.append(far)
        return [house for house in self._houses if house in there]

    def is_house(self, thing):
        """Of any object."""
        return isinstance(thing, str) and thing in self._people

    def is_road(self, thing):
        """Of any object, whether it is a road, either way round."""
        if not is_pair(thing) or not self.is_house(thing[0]) or not self.is_house(thing[1]):
            return False
        return (thing[0], thing[1]) in self._places

    def need_house(self, house):
        if not self.is_house(house):
            raise NoHouse(house)

    def place(self, one, other):
        """The place of the road of two houses."""
        self.need_house(one)
        self.need_house(other)
        if (one, other) not in self._places:
            raise NoRoad(one, other)
        return self._places[(one, other)]

    def nearer(self, start):
        """The dict from houses, outward from one, to the next house on the way to it, to None from itself."""
        found = {start: None}
        waiting = [start]
        while waiting:
            house = waiting.pop()
            for far in self._beside[house]:
                if far not in found:
                    found[far] = house
                    waiting.append(far)
        return found

    def people_in(self, some):
        """How many people live in some houses together."""
        return sum([self._people[house] for house in some])


def _need_houses(houses):
    if not is_list(houses) or len(houses) == 0:
        raise BadHouses(0)
    seen = set()
    for index, name in enumerate(houses):
        if not is_name(name) or name in seen:
            raise BadHouses(index)
        seen.add(name)


def _need_roads(houses, roads):
    if not is_list(roads):
        raise BadRoads(0)
    leads = {house: house for house in houses}
    for index, road in enumerate(roads):
        if not is_pair(road) or not _are_keys(road, leads):
            raise BadRoads(index)
        one = _leader(leads, road[0])
        other = _leader(leads, road[1])
        if one == other:
            raise BadRoads(index)
        leads[one] = other
    # Without rings, roads join all houses just if they are one less.
    if len(roads) != len(houses) - 1:
        raise BadRoads(len(roads))


def _are_keys(things, table):
    return all([isinstance(thing, str) and thing in table for thing in things])


def _leader(leads, house):
    """The one house that leads all that are joined to this one so far."""
    while leads[house] != house:
        # Pointing further ahead keeps the next search short, however long the refused list is.
        leads[house] = leads[leads[house]]
        house = leads[house]
    return house


def _need_heads(houses, heads):
    if not is_list(heads):
        raise BadHeads(0)
    for index, many in enumerate(heads):
        if index >= len(houses) or not is_from_one(many):
            raise BadHeads(index)
    if len(heads) < len(houses):
        raise BadHeads(len(heads))


def _both_ways(roads):
    places = {}
    for place, (one, other) in enumerate(roads):
        places[(one, other)] = place
        places[(other, one)] = place
    return places


def _neighbours(houses, roads):
    found = {house: {} for house in houses}
    for one, other in roads:
        found[one][other] = True
        found[other][one] = True
    return {house: [far for far in houses if far in found[house]] for house in houses}
