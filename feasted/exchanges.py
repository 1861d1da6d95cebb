"""From an evening to another one that is alike to it, by exchanges of two roads next to one another."""

from feasted.checks import need_evening, need_valley
from feasted.errors import NotAlike
from feasted.partings import held_by, roads_at


def fewest_exchanges(valley, evening, other):
    places, others = _need_alike(valley, evening, other)
    ranks = _ranks(places, others)
    return sum([len([far for far in ranks[:at] if far > rank]) for at, rank in enumerate(ranks)])


def exchange_row(valley, evening, other):
    places, others = _need_alike(valley, evening, other)
    return [roads_at(valley, order) for order in orders_between(places, others)]


def orders_between(order, goal):
    """All lists from one to a goal, each but the first one exchange off the one ahead, as short as can be."""
    ranks = _ranks(order, goal)
    passed = [list(ranks)]
    at = 0
    while at < len(ranks) - 1:
        if ranks[at] > ranks[at + 1]:
            ranks[at], ranks[at + 1] = ranks[at + 1], ranks[at]
            passed.append(list(ranks))
            at = max(at - 1, 0)
        else:
            at += 1
    return [[goal[rank] for rank in row] for row in passed]


def _ranks(order, goal):
    """Where each of an order stands in the goal."""
    return [goal.index(place) for place in order]


def _need_alike(valley, evening, other):
    """The places of the roads of both."""
    need_valley(valley)
    places = need_evening(valley, evening)
    others = need_evening(valley, other)
    if held_by(valley, places) != held_by(valley, others):
        raise NotAlike()
    return places, others
