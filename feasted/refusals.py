"""What is refused of teams and days, begun evenings, bread, nights, callers and desks."""

from feasted.errors import FeastError


class BadTeams(FeastError):
    def __init__(self, teams):
        FeastError.__init__(self, "teams are an integer from 1 on")
        self.teams = teams


class BadDays(FeastError):
    def __init__(self, days):
        FeastError.__init__(self, "days are a number")
        self.days = days


class BadBegun(FeastError):
    def __init__(self, begun):
        FeastError.__init__(self, "a begun evening is a list of unlike roads")
        self.begun = begun


class BadLooks(FeastError):
    def __init__(self, index):
        FeastError.__init__(self, "looks are a list of one or more dicts from just all houses to numbers")
        self.index = index


class CommonHouse(FeastError):
    def __init__(self, name):
        FeastError.__init__(self, "both valleys have this house")
        self.name = name


class BadJoin(FeastError):
    def __init__(self, join):
        FeastError.__init__(self, "this is no join of these two houses")
        self.join = join


class BadName(FeastError):
    def __init__(self, name):
        FeastError.__init__(self, "this is no name of a new house")
        self.name = name


class BadPeople(FeastError):
    def __init__(self, people):
        FeastError.__init__(self, "people are an integer from 1 on")
        self.people = people


class NotOuter(FeastError):
    def __init__(self, house):
        FeastError.__init__(self, "this house has not just one road")
        self.house = house


class BadHeaps(FeastError):
    def __init__(self, heaps):
        FeastError.__init__(self, "heaps are a dict from just all houses to numbers")
        self.heaps = heaps


class BadClosing(FeastError):
    def __init__(self, closing):
        FeastError.__init__(self, "a closing is a list of all roads, each once")
        self.closing = closing


class BadOthers(FeastError):
    def __init__(self, others):
        FeastError.__init__(self, "others are a dict from just all houses to numbers")
        self.others = others


class BadOpener(FeastError):
    def __init__(self, thing):
        FeastError.__init__(self, "this is no function that opens")
        self.thing = thing


class BadAsker(FeastError):
    def __init__(self, thing):
        FeastError.__init__(self, "this is no function that asks")
        self.thing = thing


class BadAnswer(FeastError):
    def __init__(self, thing):
        FeastError.__init__(self, "this answer is none of those that can be")
        self.thing = thing


class NoEvening(FeastError):
    def __init__(self, broken):
        FeastError.__init__(self, "no evening has these feasts")
        self.broken = broken


class BadDeed(FeastError):
    def __init__(self, thing):
        FeastError.__init__(self, "this is no deed")
        self.thing = thing


class IsOpen(FeastError):
    def __init__(self, one, other):
        FeastError.__init__(self, "the road of these two houses is open")
        self.one = one
        self.other = other


class IsHouse(FeastError):
    def __init__(self, name):
        FeastError.__init__(self, "there is a house of this name")
        self.name = name


class BadQuestion(FeastError):
    def __init__(self, thing):
        FeastError.__init__(self, "this is no question")
        self.thing = thing


class IsWatched(FeastError):
    def __init__(self, question):
        FeastError.__init__(self, "this question is watched, or held")
        self.question = question


class NotWatched(FeastError):
    def __init__(self, question):
        FeastError.__init__(self, "this question is not watched")
        self.question = question


class WouldChange(FeastError):
    def __init__(self, question):
        FeastError.__init__(self, "this held question would be answered otherwise")
        self.question = question


class BadGoal(FeastError):
    def __init__(self, goal):
        FeastError.__init__(self, "a goal is a dict from just all houses to numbers")
        self.goal = goal


class NoCount(FeastError):
    def __init__(self, number):
        FeastError.__init__(self, "not so many deeds are done")
        self.number = number


class BadDesk(FeastError):
    def __init__(self, thing):
        FeastError.__init__(self, "this is no Desk")
        self.thing = thing


class BadText(FeastError):
    def __init__(self, line):
        FeastError.__init__(self, "this line cannot stand here")
        self.line = line
