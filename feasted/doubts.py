"""Feasts of which one number or two are in doubt."""

from feasted.checks import need_feasts, need_valley
from feasted.errors import BadBounds, BadTold
from feasted.kinds import is_book, is_number, is_pair, keys_lacking
from feasted.partings import roads_inside, two_lots
from feasted.weights import parts_held, weights_of


def all_fitting(valley, told):
    need_valley(valley)
    lacking = keys_lacking(told, valley.houses(), is_number)
    if lacking is None or not 1 <= len(lacking) <= 2:
        raise BadTold(told)
    fitting = []
    for numbers in _numbers_due(told, len(lacking)):
        feasts = {**told, lacking[0]: numbers[0], lacking[-1]: numbers[-1]}
        if parts_held(valley, feasts) is not None:
            fitting.append(feasts)
    return _in_order(valley, fitting)


def suspects(valley, feasts):
    need_valley(valley)
    need_feasts(valley, feasts)
    return [house for house, _ in _rightings(valley, feasts)]


def wrong_and_right(valley, feasts):
    need_valley(valley)
    need_feasts(valley, feasts)
    found = _rightings(valley, feasts)
    if not found:
        return None
    house, right = found[0]
    return feasts[house], right


def exchanged(valley, feasts):
    need_valley(valley)
    need_feasts(valley, feasts)
    houses = valley.houses()
    found = []
    for at, one in enumerate(houses):
        for other in houses[at + 1:]:
            turned = {**feasts, one: feasts[other], other: feasts[one]}
            if feasts[one] != feasts[other] and parts_held(valley, turned) is not None:
                found.append((one, other))
    return found


def all_within(valley, bounds):
    need_valley(valley)
    if not is_book(bounds, valley.houses(), _is_span):
        raise BadBounds(bounds)
    return _in_order(valley, _within(valley, bounds, valley.houses(), 0, {}))


def _is_span(thing):
    return is_pair(thing) and is_number(thing[0]) and is_number(thing[1]) and thing[0] <= thing[1]


def _in_order(valley, books):
    houses = valley.houses()
    told = [{house: book[house] for house in houses} for book in books]
    return sorted(told, key=lambda book: list(book.values()))


def _halvings(weight, deepest):
    """How often 1 is halved for each of the ones in a weight that is written in twos."""
    return [deepest - at for at in range(weight.bit_length()) if (weight >> at) & 1]


def _numbers_due(told, many):
    """The lists of so many numbers with which all weights come to 1."""
    weights, whole = weights_of(told)
    lack = whole - sum(list(weights.values()))
    if lack <= 0:
        return []
    due = _halvings(lack, whole.bit_length() - 1)
    if many == 1:
        return [due] if len(due) == 1 else []
    if len(due) == 1:
        return [[due[0] + 1, due[0] + 1]]
    return [due, due[::-1]] if len(due) == 2 else []


def _rightings(valley, feasts):
    """The pairs of a house and the number, unlike its own, with which there is an evening."""
    weights, whole = weights_of(feasts)
    lack = whole - sum(list(weights.values()))
    found = []
    for house in valley.houses():
        due = _halvings(max(weights[house] + lack, 0), whole.bit_length() - 1)
        if len(due) != 1 or lack == 0:
            continue
        if parts_held(valley, {**feasts, house: due[0]}) is not None:
            found.append((house, due[0]))
    return found


def _within(valley, bounds, part, depth, known):
    """All feasts within the bounds that a part can have with so many parts around it, dicts from its houses."""
    key = (tuple(part), depth)
    if key not in known:
        known[key] = _made_within(valley, bounds, part, depth, known)
    return known[key]


def _made_within(valley, bounds, part, depth, known):
    fewest = depth if len(part) == 1 else depth + 1
    most = depth + len(part) - 1
    if not all([bounds[house][0] <= most and fewest <= bounds[house][1] for house in part]):
        return []
    if len(part) == 1:
        return [{part[0]: depth}]
    made = []
    for place in roads_inside(valley, part):
        near, beyond = two_lots(valley, part, place)
        others = _within(valley, bounds, beyond, depth + 1, known)
        made.extend([{**book, **far} for book in _within(valley, bounds, near, depth + 1, known) for far in others])
    return made
