"""From an evening to another one that is alike to it, by exchanges of two roads next to one another."""

from feasted.checks import need_evening, need_valley
from feasted.errors import NotAlike
from feasted.partings import held_by, roads_at


def fewest_exchanges(valley, evening, other):
    ranks = _ranks(valley, evening, other)
    return sum([len([far for far in ranks[:at] if far > rank]) for at, rank in enumerate(ranks)])


def exchange_row(valley, evening, other):
    ranks = _ranks(valley, evening, other)
    goal = need_evening(valley, other)
    passed = [list(ranks)]
    at = 0
    while at < len(ranks) - 1:
        if ranks[at] > ranks[at + 1]:
            ranks[at], ranks[at + 1] = ranks[at + 1], ranks[at]
            passed.append(list(ranks))
            at = max(at - 1, 0)
        else:
            at += 1
    return [roads_at(valley, [goal[rank] for rank in row]) for row in passed]


def _ranks(valley, evening, other):
    """Where each road of the evening stands in the other one."""
    need_valley(valley)
    places = need_evening(valley, evening)
    others = need_evening(valley, other)
    if held_by(valley, places) != held_by(valley, others):
        raise NotAlike()
    return [others.index(place) for place in places]
