"""Desks as texts: a line for each house, road, open road and watched question, in this order.

ROWS are the lists of the words of the lines.
"""

from feasted.desks import Desk, desk_in
from feasted.deskstates import is_question_in
from feasted.errors import BadRoads
from feasted.kinds import FIGURES, is_name
from feasted.refusals import BadDesk, BadText
from feasted.valleys import Valley

MOST_FIGURES = 9


def write_desk(desk):
    if not isinstance(desk, Desk):
        raise BadDesk(desk)
    valley = desk.valley()
    rows = [["house", house, str(people)] for house, people in zip(valley.houses(), valley.heads())]
    rows = rows + [["road", one, other] for one, other in valley.roads()]
    rows = rows + [["open", one, other] for one, other in desk.opened()]
    rows = rows + [["hold" if is_held else "watch", *question] for question, _, is_held in desk.watched()]
    return "".join([" ".join(row) + "\n" for row in rows])


def read_desk(text):
    if not isinstance(text, str):
        raise BadText(0)
    lines = text.split("\n")
    # Behind the last line feed stands no line, or one that lacks its own.
    rest = lines.pop()
    rows = [line.split(" ") for line in (lines + [rest] if rest else lines)]
    end = len(rows) if rest else len(rows) + 1
    people = _read_people(rows)
    valley = _read_valley(rows, people, end)
    places = _read_opened(rows, valley)
    watched = _read_watched(rows, valley, len(people) + len(valley.roads()) + len(places))
    if rest:
        raise BadText(end)
    return desk_in((valley, places, watched))


def _run(rows, start, word):
    """The rows from one on that begin with a word, up to the first one that does not."""
    run = []
    for row in rows[start:]:
        if row[0] != word:
            break
        run.append(row)
    return run


def _read_people(rows):
    """The dict from houses to how many people live there."""
    people = {}
    for row in _run(rows, 0, "house"):
        if len(row) != 3 or not is_name(row[1]) or row[1] in people or not _is_people(row[2]):
            raise BadText(len(people) + 1)
        people[row[1]] = int(row[2])
    if not people:
        raise BadText(1)
    return people


def _is_people(word):
    """Whether it is an integer from 1 on as it is written."""
    return 1 <= len(word) <= MOST_FIGURES and word[0] != "0" and all([sign in FIGURES for sign in word])


def _read_valley(rows, people, end):
    """The valley; end is the line that is wrong if none else is, whatever the text still lacks."""
    heads = list(people.values())
    roads = [tuple(row[1:]) for row in _run(rows, len(people), "road")]
    try:
        return Valley(list(people), roads, heads)
    except BadRoads as wrong:
        # If roads lack, the line behind them cannot stand there.
        raise BadText(min(len(people) + wrong.index + 1, end)) from None


def _read_opened(rows, valley):
    """The places of the open roads, as they were opened."""
    closed = {road: place for place, road in enumerate(valley.roads())}
    start = len(valley.houses()) + len(closed)
    places = []
    for at, row in enumerate(_run(rows, start, "open")):
        road = tuple(row[1:])
        if road not in closed:
            raise BadText(start + at + 1)
        places.append(closed.pop(road))
    return places


def _read_watched(rows, valley, start):
    """The pairs (question, whether it is held); nothing else stands from this row on."""
    held = {}
    for at, row in enumerate(rows[start:]):
        question = tuple(row[1:])
        if row[0] not in ("watch", "hold") or not is_question_in(valley, question) or question in held:
            raise BadText(start + at + 1)
        held[question] = row[0] == "hold"
    return list(held.items())
