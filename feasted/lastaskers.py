"""Functions that ask houses for their feasts, to tell the last road."""

from itertools import permutations

from feasted.checks import is_no_function, need_evening, need_valley
from feasted.partings import feasts_from, held_by, roads_at
from feasted.refusals import BadAnswer, BadAsker


def run_asker(valley, evening, asker):
    need_valley(valley)
    places = need_evening(valley, evening)
    _need_asker(asker)
    return _asked_and_right(valley, places, asker)


def beaten_by(valley, asker):
    need_valley(valley)
    _need_asker(asker)
    for order in permutations(range(len(valley.roads()))):
        places = list(order)
        _, is_right = _asked_and_right(valley, places, asker)
        if not is_right:
            return roads_at(valley, places)
    return None


def _need_asker(asker):
    if is_no_function(asker):
        raise BadAsker(asker)


def _asked_and_right(valley, places, asker):
    """The houses that it asked, and whether the road that it told was the last one."""
    asked = []
    # With no road there is nothing to tell.
    if not places:
        return asked, True
    feasts = feasts_from(valley, held_by(valley, places))
    while True:
        answer = asker([(house, feasts[house]) for house in asked])
        if valley.is_road(answer):
            return asked, valley.place(answer[0], answer[1]) == places[-1]
        if not valley.is_house(answer) or answer in asked:
            raise BadAnswer(answer)
        asked.append(answer)
