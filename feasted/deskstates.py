"""What a desk keeps, from one deed to the next.

A STATE is a triple: the valley, the list of the places of the open roads, as they were opened, and the list of the
pairs (question, whether it is held) of the watched questions. No state is ever changed: a deed makes a new one.
"""

from feasted.errors import NoHouse
from feasted.kinds import is_from_one, is_list, is_name
from feasted.partings import join_up
from feasted.refusals import BadDeed, BadQuestion, IsHouse, IsOpen, IsWatched, NotWatched
from feasted.valleys import Valley

# How many houses each question names.
NAMED = {"feasts": 1, "houses": 1, "people": 1, "common": 2, "joined": 2, "open": 0}


def is_question_in(valley, thing):
    """Of any object."""
    if not is_list(thing) or len(thing) == 0 or not isinstance(thing[0], str) or thing[0] not in NAMED:
        return False
    if len(thing) != 1 + NAMED[thing[0]] or not all([valley.is_house(house) for house in thing[1:]]):
        return False
    return len(thing) < 3 or thing[1] != thing[2]


def need_question(valley, thing):
    if not is_question_in(valley, thing):
        raise BadQuestion(thing)


def answers(state, questions):
    valley, places, _ = state
    came, lots = join_up(valley, places)
    return [_answer(valley, came, lots, question) for question in questions]


def changes(state, behind, questions):
    """The list of the triples (question, ahead, behind) of those that are answered otherwise in the state behind."""
    now = answers(state, questions)
    later = answers(behind, questions)
    return [(question, now[at], later[at]) for at, question in enumerate(questions) if now[at] != later[at]]


def watched_in(state):
    _, _, watched = state
    return [question for question, _ in watched]


def held_in(state):
    _, _, watched = state
    return [question for question, is_held in watched if is_held]


def told_deed(deed):
    """As it was handed in, as tuples; the lists in a deed that can be done are those of its question."""
    return tuple([tuple(thing) if is_list(thing) else thing for thing in deed])


def state_behind(state, deed):
    """The state that a deed makes of another, whatever is held."""
    if not _is_deed(deed):
        raise BadDeed(deed)
    if deed[0] == "open":
        return _with_open(state, deed[1], deed[2])
    if deed[0] == "build":
        return _with_house(state, deed[1], deed[2], deed[3])
    return _with_question(state, deed[0], deed[1])


def with_place(state, place):
    """The state behind the opening of a closed road."""
    valley, places, watched = state
    return valley, places + [place], watched


def _answer(valley, came, lots, question):
    if question[0] == "open":
        return len(came)
    lot = lots[question[1]]
    if question[0] == "houses":
        return len(lot)
    if question[0] == "people":
        return valley.people_in(lot)
    if question[0] == "joined":
        return question[2] in lot
    return len([part for part in came if all([house in part for house in question[1:]])])


def _is_deed(thing):
    if not is_list(thing) or len(thing) == 0:
        return False
    if thing[0] == "open":
        return len(thing) == 3 and is_name(thing[1]) and is_name(thing[2])
    if thing[0] == "build":
        return len(thing) == 4 and is_name(thing[1]) and is_from_one(thing[2]) and is_name(thing[3])
    return len(thing) == 2 and thing[0] in ("watch", "hold", "free")


def _with_open(state, one, other):
    valley, places, _ = state
    place = valley.place(one, other)
    if place in places:
        raise IsOpen(one, other)
    return with_place(state, place)


def _with_house(state, name, people, house):
    valley, places, watched = state
    if valley.is_house(name):
        raise IsHouse(name)
    if not valley.is_house(house):
        raise NoHouse(house)
    houses = valley.houses() + [name]
    return Valley(houses, valley.roads() + [(house, name)], valley.heads() + [people]), places, watched


def _with_question(state, word, question):
    valley, places, watched = state
    need_question(valley, question)
    told = tuple(question)
    known = [pair for pair in watched if pair[0] == told]
    if word == "free":
        if not known:
            raise NotWatched(question)
        return valley, places, [pair for pair in watched if pair[0] != told]
    if known and (word == "watch" or known[0][1]):
        raise IsWatched(question)
    if known:
        return valley, places, [(told, True) if pair[0] == told else pair for pair in watched]
    return valley, places, watched + [(told, word == "hold")]
