"""What comes about on the average, each evening being as likely as any other."""

from feasted.checks import need_valley
from feasted.kinds import added_up
from feasted.ways import rows_from


def mean_feasts(valley, house):
    need_valley(valley)
    valley.need_house(house)
    rows = rows_from(valley, house)
    return added_up([(1, len(rows[place])) for place in rows])


def mean_common(valley, house, guest):
    need_valley(valley)
    valley.need_house(house)
    valley.need_house(guest)
    rows = rows_from(valley, house)
    others = rows_from(valley, guest)
    return added_up([(1, len(set(rows[place] + others[place]))) for place in rows])


def mean_people(valley, one, other):
    need_valley(valley)
    place = valley.place(one, other)
    return added_up([(people, len(rows_from(valley, house)[place])) for house, people in _peopled(valley)])


def mean_meals(valley):
    need_valley(valley)
    meals = []
    for house, people in _peopled(valley):
        top, bottom = mean_feasts(valley, house)
        meals.append((people * top, bottom))
    return added_up(meals)


def _peopled(valley):
    return list(zip(valley.houses(), valley.heads()))
