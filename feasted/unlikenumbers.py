"""Unlike evenings by their numbers."""

from feasted.checks import need_evening, need_valley
from feasted.errors import BadNumber
from feasted.kinds import is_number
from feasted.partings import first_of, held_by
from feasted.splits import bits_of, count_lot, lot_of, lots_apart, splits_of


def unlike_at(valley, number):
    need_valley(valley)
    houses = valley.houses()
    bits = bits_of(houses)
    splits = splits_of(valley, houses)
    known = {}
    every = lot_of(bits, houses)
    if not is_number(number) or number >= count_lot(splits, every, known):
        raise BadNumber(number)
    held = {}
    waiting = [(every, number)]
    while waiting:
        lot, left = waiting.pop()
        if lots_apart(splits, lot):
            place, near, beyond, within = _last_at(splits, lot, left, known)
            held[place] = [house for house in houses if bits[house] & lot]
            ways = count_lot(splits, beyond, known)
            waiting.append((near, within // ways))
            waiting.append((beyond, within % ways))
    return first_of(valley, held)


def unlike_number(valley, evening):
    need_valley(valley)
    held = held_by(valley, need_evening(valley, evening))
    bits = bits_of(valley.houses())
    last = {lot_of(bits, held[place]): place for place in held}
    return _number_of(splits_of(valley, valley.houses()), lot_of(bits, valley.houses()), last, {})


def _last_at(splits, lot, number, known):
    """The last road of a lot's evening with a number, both lots that it parts, and the number among all with it."""
    ahead = 0
    for place, near, beyond in lots_apart(splits, lot):
        behind = ahead + count_lot(splits, near, known) * count_lot(splits, beyond, known)
        if number < behind:
            break
        ahead = behind
    return place, near, beyond, number - ahead


def _number_of(splits, lot, last, known):
    """The number of a lot's evening; last is the dict from its lots to the places of their last roads."""
    number = 0
    for place, near, beyond in lots_apart(splits, lot):
        ways = count_lot(splits, beyond, known)
        if place == last[lot]:
            number += _number_of(splits, near, last, known) * ways + _number_of(splits, beyond, last, known)
            break
        number += count_lot(splits, near, known) * ways
    return number
