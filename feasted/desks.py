"""The desk: a valley that lives, questions watched and held, and deeds done whole or not at all."""

from feasted.checks import need_valley
from feasted.deskstates import (answers, changes, held_in, is_question_in, need_question, state_behind, told_deed,
                                watched_in, with_place)
from feasted.halves import feasts_break
from feasted.kinds import is_book, is_number
from feasted.partings import first_places, first_unlike, held_by, roads_at
from feasted.refusals import BadGoal, NoCount, WouldChange
from feasted.weights import parts_held


class Desk:
    def __init__(self, valley):
        need_valley(valley)
        # All deeds, also those taken back, the state ahead of the first one and behind each, and how many are done.
        # Both lists are only ever put aside for others, so that a trial can put them back.
        self._deeds = []
        self._states = [(valley, [], [])]
        self._done = 0

    def __eq__(self, other):
        if not isinstance(other, Desk):
            return False
        return self._states[self._done] == other._states[other._done]

    def valley(self):
        valley, _, _ = self._state()
        return valley

    def opened(self):
        valley, places, _ = self._state()
        return roads_at(valley, places)

    def watched(self):
        _, _, watched = self._state()
        now = answers(self._state(), watched_in(self._state()))
        return [(question, now[at], is_held) for at, (question, is_held) in enumerate(watched)]

    def do(self, deed):
        behind = state_behind(self._state(), deed)
        broken = changes(self._state(), behind, held_in(self._state()))
        if broken:
            raise WouldChange(broken[0][0])
        changed = changes(self._state(), behind, watched_in(self._state()))
        self._deeds = self._deeds[:self._done] + [told_deed(deed)]
        self._states = self._states[:self._done + 1] + [behind]
        self._done += 1
        return changed

    def is_question(self, thing):
        return is_question_in(self.valley(), thing)

    def answer(self, question):
        need_question(self.valley(), question)
        return answers(self._state(), [question])[0]

    def way_to(self, goal):
        _need_goal(self.valley(), goal)
        valley, places, _ = self._state()
        held = parts_held(valley, goal)
        if held is None or first_unlike(places, held_by(valley, places), held) is not None:
            return None
        return roads_at(valley, [place for place in first_places(valley, held) if place not in places])

    def goal_fault(self, goal):
        _need_goal(self.valley(), goal)
        valley, places, _ = self._state()
        broken = feasts_break(valley, goal)
        if broken is not None:
            return "break", broken
        place = first_unlike(places, held_by(valley, places), parts_held(valley, goal))
        if place is None:
            return None
        one, other = valley.roads()[place]
        return "road", one, other

    def would(self, deed):
        behind = state_behind(self._state(), deed)
        return changes(self._state(), behind, watched_in(self._state()))

    def free_roads(self):
        valley, places, _ = self._state()
        held = held_in(self._state())
        closed = [place for place in range(len(valley.roads())) if place not in places]
        free = [place for place in closed if not changes(self._state(), with_place(self._state(), place), held)]
        return roads_at(valley, free)

    def count(self):
        return self._done

    def undo(self):
        if self._done == 0:
            return None
        self._done -= 1
        return self._deeds[self._done]

    def again(self):
        if self._done == len(self._deeds):
            return None
        self._done += 1
        return self._deeds[self._done - 1]

    def deeds(self):
        return self._deeds[:self._done]

    def at(self, number):
        if not is_number(number) or number > self._done:
            raise NoCount(number)
        other = self.copy()
        other._deeds = self._deeds[:number]
        other._states = self._states[:number + 1]
        other._done = number
        return other

    def copy(self):
        other = Desk(self.valley())
        other._deeds = self._deeds
        other._states = self._states
        other._done = self._done
        return other

    def trial(self, work):
        deeds, states, done = self._deeds, self._states, self._done
        try:
            return work(self)
        finally:
            self._deeds, self._states, self._done = deeds, states, done

    def _state(self):
        return self._states[self._done]


def desk_in(state):
    """A desk in this state, no deed done."""
    valley, _, _ = state
    desk = Desk(valley)
    desk._states = [state]
    return desk


def _need_goal(valley, goal):
    if not is_book(goal, valley.houses(), is_number):
        raise BadGoal(goal)
