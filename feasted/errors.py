"""What is refused: each error keeps the very objects with which it is made."""


class FeastError(ValueError):
    """Whatever this package refuses."""


class BadHouses(FeastError):
    def __init__(self, index):
        FeastError.__init__(self, "houses are a list of one or more unlike names")
        self.index = index


class BadRoads(FeastError):
    def __init__(self, index):
        FeastError.__init__(self, "roads are pairs of unlike houses that join all houses without rings")
        self.index = index


class BadHeads(FeastError):
    def __init__(self, index):
        FeastError.__init__(self, "heads are integers from 1 on, one for each house")
        self.index = index


class BadValley(FeastError):
    def __init__(self, thing):
        FeastError.__init__(self, "this is no Valley")
        self.thing = thing


class NoHouse(FeastError):
    def __init__(self, house):
        FeastError.__init__(self, "this is none of the houses")
        self.house = house


class NoRoad(FeastError):
    def __init__(self, one, other):
        FeastError.__init__(self, "these two houses have no road")
        self.one = one
        self.other = other


class BadEvening(FeastError):
    def __init__(self, evening):
        FeastError.__init__(self, "an evening is a list of all roads, each once")
        self.evening = evening


class BadMany(FeastError):
    def __init__(self, many):
        FeastError.__init__(self, "there are not so many")
        self.many = many


class BadFeasts(FeastError):
    def __init__(self, feasts):
        FeastError.__init__(self, "feasts are a dict from just all houses to numbers")
        self.feasts = feasts


class BadSome(FeastError):
    def __init__(self, index):
        FeastError.__init__(self, "some are a list of unlike houses")
        self.index = index


class BadPart(FeastError):
    def __init__(self, part):
        FeastError.__init__(self, "a part is a list of unlike houses that hang together")
        self.part = part


class BadNumbers(FeastError):
    def __init__(self, numbers):
        FeastError.__init__(self, "numbers are a dict from just all roads to integers from 1 on")
        self.numbers = numbers


class BadRest(FeastError):
    def __init__(self, rest):
        FeastError.__init__(self, "a rest is a dict from all roads but one to integers from 1 on")
        self.rest = rest


class NotOne(FeastError):
    def __init__(self, weight):
        FeastError.__init__(self, "the houses do not weigh 1 together")
        self.weight = weight


class BadRoad(FeastError):
    def __init__(self, road):
        FeastError.__init__(self, "this is no road of the valley")
        self.road = road


class BadFar(FeastError):
    def __init__(self, far):
        FeastError.__init__(self, "this is no road of the valley")
        self.far = far


class BadTold(FeastError):
    def __init__(self, told):
        FeastError.__init__(self, "told are a dict from all houses but one or two to numbers")
        self.told = told


class BadBounds(FeastError):
    def __init__(self, bounds):
        FeastError.__init__(self, "bounds are a dict from just all houses to pairs of numbers, the least one first")
        self.bounds = bounds


class BadSums(FeastError):
    def __init__(self, sums):
        FeastError.__init__(self, "sums are a dict from just all houses to numbers")
        self.sums = sums


class BadKnown(FeastError):
    def __init__(self, known):
        FeastError.__init__(self, "known are a dict from all houses but one to numbers")
        self.known = known


class BadWidths(FeastError):
    def __init__(self, widths):
        FeastError.__init__(self, "widths are a dict from just all roads to integers from 1 on")
        self.widths = widths


class BadNames(FeastError):
    def __init__(self, index):
        FeastError.__init__(self, "names are a list of all houses but the gate, each once")
        self.index = index


class NoRow(FeastError):
    def __init__(self, gate):
        FeastError.__init__(self, "the houses are no row that ends at the gate")
        self.gate = gate


class BadCounts(FeastError):
    def __init__(self, counts):
        FeastError.__init__(self, "counts are a dict from just all houses but the gate to integers from 1 on")
        self.counts = counts


class NotThree(FeastError):
    def __init__(self, one, other, third):
        FeastError.__init__(self, "these are not three unlike houses")
        self.one = one
        self.other = other
        self.third = third


class BadTable(FeastError):
    def __init__(self, table):
        FeastError.__init__(self, "a table is a dict from just all pairs of houses to numbers")
        self.table = table


class BadPairs(FeastError):
    def __init__(self, pairs):
        FeastError.__init__(self, "pairs are a dict from some pairs of houses to numbers")
        self.pairs = pairs


class BadNumber(FeastError):
    def __init__(self, number):
        FeastError.__init__(self, "this number is none of those that can be")
        self.number = number


class BadOpened(FeastError):
    def __init__(self, index):
        FeastError.__init__(self, "opened are unlike roads, each behind all that lie in its part")
        self.index = index


class NotAlike(FeastError):
    def __init__(self):
        FeastError.__init__(self, "the evenings are not alike")


class SameHouse(FeastError):
    def __init__(self, house):
        FeastError.__init__(self, "this house stood before")
        self.house = house


class BadChooser(FeastError):
    def __init__(self, thing):
        FeastError.__init__(self, "this is no function that chooses")
        self.thing = thing


class BadOften(FeastError):
    def __init__(self, often):
        FeastError.__init__(self, "this is no number")
        self.often = often


class BadLog(FeastError):
    def __init__(self, index):
        FeastError.__init__(self, "a log is a list of lists of just all other houses")
        self.index = index


class NoSuchLog(FeastError):
    def __init__(self, fault):
        FeastError.__init__(self, "no evening has this log")
        self.fault = fault


class BadLot(FeastError):
    def __init__(self, index):
        FeastError.__init__(self, "a lot is a list of unlike houses")
        self.index = index


class BadDate(FeastError):
    def __init__(self, date):
        FeastError.__init__(self, "this is no date")
        self.date = date


class BadDates(FeastError):
    def __init__(self, index):
        FeastError.__init__(self, "dates are unlike dates, one for each road")
        self.index = index


class BadSpans(FeastError):
    def __init__(self, index):
        FeastError.__init__(self, "spans are pairs of integers, the least one first, one for each road")
        self.index = index
