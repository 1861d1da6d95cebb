"""Valleys for the tests, all evenings of small ones, and what every call is held against."""

import copy
import fractions
import itertools
import random

from feasted.errors import BadFeasts, NotAlike
from feasted.valleys import Valley

EXAMPLE = Valley(["a", "b", "c", "d"], [("a", "b"), ("b", "c"), ("b", "d")], [1, 1, 1, 1])
EVENING = [("b", "c"), ("a", "b"), ("b", "d")]
LONE = Valley(["a"], [], [7])
TWO = Valley(["b", "a"], [("a", "b")], [3, 4])


def some_function():
    return None


def deep(times=50):
    thing = {"x": None}
    for time in range(times):
        thing = [thing] if time % 2 else (thing,)
    return thing


# Of each kind that ANY OBJECT names; none is a house, an evening, a dict of houses or a part.
ANYTHING = [
    0, 1, -1, 10 ** 30, True, False, None, "", "zz", "A", "a b", "abcdefghi", "1a", "ab",
    [], (), {}, [[]], [()], [None], [["a", "b"]], ("a", "zz"), {"a": 1}, {("a", "b"): [1]}, {"zz": {}},
    some_function, lambda: None, EXAMPLE, LONE, BadFeasts([]), NotAlike(), deep(), [deep(), deep()],
    [["a"], "b"], [("a", ["b"])], [({}, {})], (([],), ([],)),
]


def named(numbers, names="abcdefghijklmnopqrstuvwxyz"):
    return dict(zip(names, numbers))


def names_of(many):
    return [f"h{index}" for index in range(many)]


def row(many, heads=None):
    names = names_of(many)
    return Valley(names, list(zip(names, names[1:])), heads or [1] * many)


def star(many, heads=None, middle=0):
    names = names_of(many)
    others = [name for name in names if name != names[middle]]
    return Valley(names, [(names[middle], name) for name in others], heads or [1] * many)


def tree(many, seed, heads=None):
    """Some form, houses and roads in no order, roads either way round."""
    chance = random.Random(seed)
    names = names_of(many)
    chance.shuffle(names)
    roads = []
    for index in range(1, many):
        pair = [names[index], names[chance.randrange(max(0, index - 6), index)]]
        chance.shuffle(pair)
        roads.append(tuple(pair))
    chance.shuffle(roads)
    chance.shuffle(names)
    return Valley(names, roads, heads or [chance.randrange(1, 9) for _ in names])


def shuffled(valley, seed):
    roads = valley.roads()
    random.Random(seed).shuffle(roads)
    return roads


def halved_evening(valley):
    """Of a row: each part's last road stands near its middle, so that many evenings are alike to this one."""
    places = range(1, len(valley.roads()) + 1)
    return [valley.roads()[place - 1] for place in sorted(places, key=lambda place: place & -place)]


def big_valleys(many=60, heads=None):
    stars = [star(many, heads), star(many, heads, many - 1)]
    return [row(many, heads), *stars, tree(many, 5, heads), tree(many, 6, heads)]


def big_evenings(many=60, heads=None):
    """Pairs of great valleys and of evenings of theirs: by places, the other way, and mixed."""
    for valley in big_valleys(many, heads):
        roads = valley.roads()
        for evening in [roads, roads[::-1], shuffled(valley, 1), shuffled(valley, 2)]:
            yield valley, evening


def small_valleys(most=5):
    """All forms of up to five houses, and some of six, the order of houses and roads mixed."""
    forms = [
        [], [(0, 1)], [(1, 0), (1, 2)],
        [(0, 1), (2, 1), (2, 3)], [(3, 0), (1, 0), (0, 2)],
        [(4, 1), (1, 0), (3, 0), (3, 2)], [(2, 0), (2, 1), (4, 2), (2, 3)], [(0, 1), (1, 2), (3, 1), (4, 3)],
        [(5, 3), (1, 3), (3, 0), (0, 2), (4, 0)], [(5, 4), (4, 3), (2, 3), (1, 3), (3, 0)],
    ]
    for form in forms:
        many = len(form) + 1
        if many <= most:
            names = list("abcdef"[:many])
            yield Valley(names, [(names[one], names[other]) for one, other in form], [3, 1, 2, 5, 1, 4][:many])


def all_evenings(valley):
    """In their order."""
    return [list(roads) for roads in itertools.permutations(valley.roads())]


def alike_ones(valley):
    """All evenings, those that are alike to one another in one list, in their order."""
    found = {}
    for evening in all_evenings(valley):
        found.setdefault(frozen(plain_parts(valley, evening)), []).append(evening)
    return list(found.values())


def share(top, bottom):
    """A fraction as it is told."""
    least = fractions.Fraction(top, bottom)
    return least.numerator, least.denominator


def mean(numbers):
    return share(sum(numbers), len(numbers))


def plain_parts(valley, evening):
    """The parts of roads, looked for anew each time a road is opened."""
    found = {}
    for many in range(1, len(evening) + 1):
        reached = set(evening[many - 1])
        for _ in valley.houses():
            for one, other in evening[:many]:
                if one in reached or other in reached:
                    reached |= {one, other}
        found[evening[many - 1]] = [house for house in valley.houses() if house in reached]
    return {road: found[road] for road in valley.roads()}


def plain_feasts(valley, evening):
    held = plain_parts(valley, evening).values()
    return {house: sum(house in part for part in held) for house in valley.houses()}


def plain_numbers(valley, evening):
    held = plain_parts(valley, evening)
    return {road: sum(set(held[road]) <= set(part) for part in held.values()) for road in valley.roads()}


def plain_table(valley, evening):
    held = plain_parts(valley, evening).values()
    return {(one, other): sum(one in part and other in part for part in held)
            for one, other in itertools.combinations(valley.houses(), 2)}


def frozen(thing):
    """What can be a key, alike for alike things."""
    if isinstance(thing, (list, tuple)):
        return tuple(frozen(member) for member in thing)
    if isinstance(thing, dict):
        return tuple((key, frozen(thing[key])) for key in thing)
    return thing


def first_ones(valley, book):
    """The dict from what a book is, of each evening, to the first evening of which it is that."""
    first = {}
    for evening in all_evenings(valley):
        first.setdefault(frozen(book(valley, evening)), evening)
    return first


def all_books(keys, numbers):
    for values in itertools.product(numbers, repeat=len(keys)):
        yield dict(zip(keys, values))


def nearly(book, numbers):
    """A book, and all that differ from it in one number."""
    yield dict(book)
    for key in book:
        for number in numbers:
            if number != book[key]:
                yield {**book, key: number}


def refused(test, error, kept, call):
    """A call raises just this error, which keeps just these objects."""
    with test.assertRaises(error) as caught:
        call()
    test.assertIs(caught.exception.__class__, error)
    for name, thing in kept.items():
        if isinstance(thing, (int, tuple)) and name in ("index", "weight"):
            test.assertEqual(getattr(caught.exception, name), thing)
        else:
            test.assertIs(getattr(caught.exception, name), thing)
    test.assertEqual(set(vars(caught.exception)), set(kept))


def refused_in_order(test, function, good, rows):
    """Each row (names of parameters, what is wrong, error, what it keeps) is due ahead of all rows behind it."""
    for at, (_, _, error, kept) in enumerate(rows):
        wrong = dict(good)
        for changes in [row[:2] for row in rows[at:][::-1]]:
            wrong.update(dict(zip(*changes)))
        with test.subTest(function=function.__name__, row=at):
            refused(test, error, kept, lambda: function(**wrong))
            alone = {**good, **dict(zip(*rows[at][:2]))}
            refused(test, error, kept, lambda: function(**alone))


def containers(thing):
    """All lists and dicts within a thing."""
    found = [thing] if isinstance(thing, (list, dict)) else []
    members = thing if isinstance(thing, (list, tuple)) else list(thing.values()) if isinstance(thing, dict) else []
    for member in members:
        found.extend(containers(member))
    return found


def turned(thing):
    """Lists for tuples and tuples for lists, but for keys of dicts; and these in another order."""
    if isinstance(thing, list):
        return tuple(turned(member) for member in thing)
    if isinstance(thing, tuple):
        return [turned(member) for member in thing]
    if isinstance(thing, dict):
        return {key: turned(thing[key]) for key in reversed(list(thing))}
    return thing


def keep_to_the_rules(test, function, arguments, expected):
    """What holds of every call: told things are new, arguments stay, lists and tuples and names mean the same."""
    passed = copy.deepcopy(list(arguments.values()))
    answer = function(*passed)
    test.assertEqual(answer, expected)
    test.assertEqual(repr(answer), repr(expected))
    test.assertEqual(passed, list(arguments.values()))
    inner = containers(answer)
    test.assertEqual(len({id(one) for one in inner}), len(inner))
    test.assertFalse({id(one) for one in inner} & {id(one) for one in containers(passed)})
    for one in inner:
        one.clear()
    test.assertEqual(repr(function(*passed)), repr(expected))
    test.assertEqual(passed, list(arguments.values()))
    test.assertEqual(repr(function(**arguments)), repr(expected))
    test.assertEqual(repr(function(**dict(reversed(arguments.items())))), repr(expected))
    again = {name: turned(thing) for name, thing in arguments.items()}
    test.assertEqual(repr(function(**again)), repr(expected))


def some_spans(valley, times, seed=3):
    """Lists of spans, wide and narrow, no two of one and the same date alone."""
    chance = random.Random(seed)
    for time in range(times):
        spans = []
        while len(spans) < len(valley.roads()):
            least = chance.randrange(-1, 4)
            span = (least, least + chance.randrange(0, 1 + time % 5))
            if span[0] != span[1] or span not in spans:
                spans.append(span)
        yield spans


def span_dates(valley, spans, evening):
    """The earliest and the latest dates of all roads by an evening, None if there are none: each a day and how many
    least moments behind it, or ahead of it."""
    span_of = dict(zip(valley.roads(), spans))
    soon = {}
    now = (-100, 0)
    for road in evening:
        now = max((span_of[road][0], 0), (now[0], now[1] + 1))
        if now > (span_of[road][1], 0):
            return None
        soon[road] = now
    late = {}
    now = (100, 0)
    for road in reversed(evening):
        now = min((span_of[road][1], 0), (now[0], now[1] - 1))
        late[road] = now
    return soon, late


def all_plans(valley):
    """All ways to open all roads day by day, whether or not it makes a difference who is first on a day."""
    return _days_of(valley.roads())


def _days_of(left):
    if not left:
        return [[]]
    found = []
    for many in range(1, len(left) + 1):
        for day in itertools.combinations(left, many):
            found.extend([list(day)] + rest for rest in _days_of([road for road in left if road not in day]))
    return found


def all_begun(valley):
    """All begun evenings, in their order among those that are as long."""
    for many in range(len(valley.roads()) + 1):
        for roads in itertools.permutations(valley.roads(), many):
            yield list(roads)


def plain_lots(valley, begun):
    """The parts joined by some roads, by their first houses."""
    lots = []
    for house in valley.houses():
        if house not in [far for lot in lots for far in lot]:
            reached = {house}
            known = 0
            while len(reached) > known:
                known = len(reached)
                for one, other in begun:
                    if one in reached or other in reached:
                        reached |= {one, other}
            lots.append([far for far in valley.houses() if far in reached])
    return lots


def plain_so_far(valley, begun):
    feasts = {house: 0 for house in valley.houses()}
    for many in range(1, len(begun) + 1):
        for lot in plain_lots(valley, begun[:many]):
            if begun[many - 1][0] in lot:
                for house in lot:
                    feasts[house] += 1
    return feasts
