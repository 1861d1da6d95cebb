import itertools
import random
import re
import unittest

from feasted.desks import Desk
from feasted.desktexts import read_desk, write_desk
from feasted.refusals import BadDesk, BadText
from feasted.valleys import Valley
from tests.helpers import ANYTHING, EXAMPLE, LONE, TWO, names_of, plain_lots, refused, small_valleys, star, tree
from tests.test_desks import all_questions, begun, to_come

TEXT = """house a 1
house b 1
house c 1
house d 1
road a b
road b c
road b d
open b c
open a b
hold houses d
"""
LONG = """house a 7
house zz 12
house c3 999999999
road zz a
road zz c3
open zz c3
watch open
hold common a zz
watch feasts c3
watch common zz a
"""
NAME = "[a-z][a-z0-9]{0,7}"


def bad_line(text):
    """The line that is told as wrong, None if the text is read."""
    try:
        read_desk(text)
    except BadText as refusal:
        return refusal.line
    return None


def plain_bad_line(text):
    """[23.2], line by line."""
    lines = text.split("\n")
    is_whole = lines[-1] == ""
    if is_whole:
        lines.pop()
    there = {"house": [], "road": [], "open": [], "watch": []}
    for number, line in enumerate(lines, 1):
        if not can_stand(line, there):
            return number
    if not is_whole:
        return len(lines)
    return None if is_joined(there) else len(lines) + 1


def is_joined(there):
    return len(lots_of(there)) == 1


def lots_of(there):
    """The houses so far, as the roads so far join them."""
    names = there["house"]
    return plain_lots(Valley(names, list(zip(names, names[1:])), [1] * len(names)), there["road"]) if names else []


def can_stand(line, there):
    """Whether it can stand behind those that are there, of which it becomes one."""
    word = line.split(" ")[0]
    kind = "watch" if word == "hold" else word
    kinds = list(there)
    if kind not in kinds or any(there[later] for later in kinds[kinds.index(kind) + 1:]):
        return False
    if kind not in ("house", "road") and not is_joined(there):
        return False
    found = {"house": house_in, "road": road_in, "open": open_in, "watch": question_in}[kind](line, there)
    if found is None:
        return False
    there[kind].append(found)
    return True


def house_in(line, there):
    found = re.fullmatch(f"house ({NAME}) [1-9][0-9]{{0,8}}", line)
    return None if found is None or found[1] in there["house"] else found[1]


def road_in(line, there):
    found = re.fullmatch(f"road ({NAME}) ({NAME})", line)
    if found is None or not {found[1], found[2]} <= set(there["house"]) or found[1] == found[2]:
        return None
    return None if any({found[1], found[2]} <= set(lot) for lot in lots_of(there)) else (found[1], found[2])


def open_in(line, there):
    found = re.fullmatch(f"open ({NAME}) ({NAME})", line)
    if found is None or (found[1], found[2]) not in there["road"] or (found[1], found[2]) in there["open"]:
        return None
    return found[1], found[2]


def question_in(line, there):
    found = re.fullmatch(f"(?:watch|hold) (open|(?:feasts|houses|people) ({NAME})|(?:common|joined) ({NAME}) ({NAME}))", line)
    if found is None or found[1] in there["watch"] or (found[3] and found[3] == found[4]):
        return None
    return found[1] if {each for each in found.groups()[1:] if each} <= set(there["house"]) else None


def plain_text(desk):
    valley = desk.valley()
    lines = [f"house {house} {people}" for house, people in zip(valley.houses(), valley.heads())]
    lines += [f"road {one} {other}" for one, other in valley.roads()]
    lines += [f"open {one} {other}" for one, other in desk.opened()]
    for question, _, is_held in desk.watched():
        lines.append(" ".join(["hold" if is_held else "watch", *question]))
    return "".join(line + "\n" for line in lines)


def some_desk(valley, seed):
    """Roads opened, houses built, questions watched, held, and freed, deeds taken back."""
    chance = random.Random(seed)
    desk = Desk(valley)
    for _ in range(chance.randrange(12)):
        closed = [road for road in desk.valley().roads() if road not in desk.opened()]
        free = [question for question in all_questions(desk.valley())
                if question not in [each for each, _, _ in desk.watched()]]
        chance.shuffle(closed)
        deeds = [("open", *road) for road in closed[:1]]
        deeds += [("watch", chance.choice(free))] * (len(desk.watched()) < 5)
        deeds += [("free", question) for question, _, _ in desk.watched()[:1]]
        deeds += [("build", f"n{desk.count()}", chance.randrange(1, 10 ** 9), chance.choice(valley.houses()))]
        desk.do(chance.choice(deeds))
        if chance.randrange(5) == 0:
            desk.undo()
    for question, _, _ in desk.watched()[::2]:
        desk.do(("hold", question))
    return desk


class Example(unittest.TestCase):
    def desk(self):
        return begun(EXAMPLE, ("open", "c", "b"), ("open", "a", "b"), ("hold", ("houses", "d")))

    def test_write(self):
        self.assertEqual(write_desk(self.desk()), TEXT)
        self.assertEqual(write_desk(desk=read_desk(text=LONG)), LONG)
        self.assertEqual(write_desk(Desk(LONE)), "house a 7\n")
        self.assertEqual(write_desk(begun(TWO, ("open", "b", "a"), ("watch", ["open"]))),
                         "house b 3\nhouse a 4\nroad a b\nopen a b\nwatch open\n")

    def test_read(self):
        desk = read_desk(TEXT)
        self.assertIsInstance(desk, Desk)
        self.assertEqual(desk, self.desk())
        self.assertEqual([desk.count(), desk.deeds(), desk.undo(), desk.again()], [0, [], None, None])
        self.assertEqual(repr(desk.opened()), repr([("b", "c"), ("a", "b")]))
        self.assertEqual(repr(desk.watched()), repr([(("houses", "d"), 1, True)]))
        self.assertEqual(desk.valley(), EXAMPLE)
        more = read_desk(LONG)
        self.assertEqual(more.valley(), Valley(["a", "zz", "c3"], [("zz", "a"), ("zz", "c3")], [7, 12, 999999999]))
        self.assertEqual(repr(more.watched()), repr([(("open",), 1, False), (("common", "a", "zz"), 0, True),
                                                     (("feasts", "c3"), 1, False), (("common", "zz", "a"), 0, False)]))

    def test_wrong(self):
        self.assertEqual(bad_line(TEXT.replace("road b d", "road c a")), 7)
        self.assertEqual(bad_line(TEXT.replace("road b d\n", "")), 7)
        self.assertEqual(bad_line(TEXT.replace("open b c", "open c b")), 8)

    def test_each_kind_of_fault(self):
        for text, line in [
                ("", 1), ("\n", 1), ("house a 7", 1), ("house a 7\n\n", 2), ("house a 7\nhouse b 1\n", 3),
                ("house a 7\nhouse b 1", 2), ("house a 7\nhouse b 1\nroad a b", 3), ("road a b\n", 1), ("open a b\n", 1),
                ("watch open\n", 1), ("house a 7\nhouse b 1\nwatch open\n", 3), ("house a 7\nhouse b 1\nopen a b\n", 3),
                ("house a\n", 1), ("house a 7 \n", 1), (" house a 7\n", 1), ("house  a 7\n", 1), ("house a 7 7\n", 1),
                ("houses a 7\n", 1), ("House a 7\n", 1), ("house A 7\n", 1), ("house abcdefghi 7\n", 1),
                ("house a 0\n", 1), ("house a 07\n", 1), ("house a -7\n", 1), ("house a +7\n", 1), ("house a 7.0\n", 1),
                ("house a 1_0\n", 1), ("house a x\n", 1), ("house a \n", 1), ("house a 1000000000\n", 1),
                ("house a 1" + "0" * 9000 + "\n", 1), ("house a 7\r\n", 1), ("house a 7\thouse b 1\n", 1),
                ("house a 7\x0bhouse b 1\n", 1), ("house a \u0667\n", 1), ("house a 7\u2028", 1), ("house \u00e4 7\n", 1),
                ("house a 7\nhouse a 7\n", 2), ("house a 7\nroad a a\n", 2), ("house a 7\nroad a b\n", 2),
                ("house a 7\nhouse b 1\nroad a b\nroad b a\n", 4), ("house a 7\nhouse b 1\nroad a b\nhouse c 1\n", 4),
                ("house a 7\nhouse b 1\nroad a b c\n", 3), ("house a 7\nhouse b 1\nroad a\n", 3),
                ("house a 7\nhouse b 1\nhouse c 1\nroad a b\nhouse d 1\n", 5),
                ("house a 7\nhouse b 1\nhouse c 1\nroad a b\nopen a b\n", 5),
                ("house a 7\nhouse b 1\nhouse c 1\nroad a b\nroad b\nroad b a\n", 5),
                ("house a 7\nhouse b 1\nhouse c 1\nroad a b\nroad b a\nroad b\n", 5),
                ("house a 7\nopen a a\n", 2), ("house a 7\nopen\n", 2), ("house a 7\nclose\n", 2)]:
            self.assertEqual(bad_line(text), line, text[:80])
        for more, line in [
                ("open b d\nopen b d\n", 9), ("open d b\n", 8), ("open a c\n", 8), ("open b d \n", 8), ("open b\n", 8),
                ("watch open\nopen b d\n", 9), ("watch open\nroad b d\n", 9), ("open b d\nhouse e 1\n", 9),
                ("watch open\nhouse e 1\n", 9), ("watch open\nwatch open\n", 9), ("watch open\nhold open\n", 9),
                ("hold open\nwatch open\n", 9), ("hold open\nhold open\n", 9), ("watch feasts e\n", 8), ("watch\n", 8),
                ("watch feasts\n", 8), ("watch feasts a b\n", 8), ("watch common a\n", 8), ("watch common a a\n", 8),
                ("watch open a\n", 8), ("watch  open\n", 8), ("hold open \n", 8), ("free open\n", 8), ("watch closed\n", 8),
                ("watch open", 8), ("open b d", 8), ("watch common a b\nhold common b a\nwatch joined a b\n", None),
                ("watch open\nhold people a\nwatch houses a\nwatch feasts a\n", None), ("", None)]:
            self.assertEqual(bad_line("".join(TEXT.splitlines(True)[:7]) + more), line, more)
        self.assertIsNone(bad_line("house a 999999999\n"))
        self.assertIsNone(bad_line("house abcdefg9 100000000\nwatch feasts abcdefg9\n"))


class Refused(unittest.TestCase):
    def test_any_object(self):
        for thing in ANYTHING:
            refused(self, BadDesk, {"thing": thing}, lambda: write_desk(thing))
            if isinstance(thing, str):
                self.assertEqual(bad_line(thing), 1)
            else:
                refused(self, BadText, {"line": 0}, lambda: read_desk(thing))
        refused(self, BadText, {"line": 0}, lambda: read_desk(Desk(LONE)))
        refused(self, BadText, {"line": 0}, lambda: read_desk([TEXT]))
        refused(self, BadDesk, {"thing": TEXT}, lambda: write_desk(TEXT))

    def test_error_keeps_the_line_alone(self):
        with self.assertRaises(BadText) as caught:
            read_desk(TEXT.replace("road b c", "road d c"))
        self.assertEqual(vars(caught.exception), {"line": 8})


class Written(unittest.TestCase):
    def read_again(self, desk):
        text = write_desk(desk)
        self.assertEqual(text, plain_text(desk))
        self.assertIsNone(plain_bad_line(text))
        other = read_desk(text)
        self.assertEqual(other, desk)
        self.assertEqual([other.valley(), other.opened(), other.watched()], [desk.valley(), desk.opened(), desk.watched()])
        self.assertEqual([other.count(), other.deeds(), to_come(other)], [0, [], []])
        self.assertEqual(write_desk(other), text)
        return other

    def test_all_openings(self):
        for valley in small_valleys(4):
            for many in range(len(valley.roads()) + 1):
                for roads in itertools.permutations(valley.roads(), many):
                    self.read_again(begun(valley, *[("open", *road) for road in roads]))

    def test_all_questions(self):
        for valley in small_valleys(3):
            for question in all_questions(valley):
                for word in ("watch", "hold"):
                    self.read_again(begun(valley, (word, question)))

    def test_some_desks(self):
        for valley in [LONE, TWO, EXAMPLE, *small_valleys(5), tree(7, 2)]:
            for seed in range(12):
                desk = some_desk(valley, seed)
                deeds, later = desk.deeds(), to_come(desk)
                other = self.read_again(desk)
                # What is done at the one is not done at the other, and both go on alike.
                for question in all_questions(desk.valley())[:9]:
                    self.assertEqual(other.answer(question), desk.answer(question))
                self.assertEqual(other.free_roads(), desk.free_roads())
                self.assertEqual(other.do(("build", "more", 1, valley.houses()[0])), [])
                self.assertEqual([desk.deeds(), to_come(desk)], [deeds, later])
                self.assertNotEqual(other, desk)
                self.assertEqual(other.undo(), ("build", "more", 1, valley.houses()[0]))
                self.assertEqual(other, desk)

    def test_held_stays_held(self):
        desk = read_desk(TEXT)
        self.assertEqual(desk.free_roads(), [])
        self.assertEqual(desk.would(("open", "b", "d")), [(("houses", "d"), 1, 4)])

    def test_changed_later(self):
        desk = read_desk(TEXT)
        for told in (desk.opened(), desk.watched(), desk.valley().roads()):
            told.clear()
        self.assertEqual(write_desk(desk), TEXT)


class Bent(unittest.TestCase):
    def held_against(self, text):
        expected = plain_bad_line(text)
        self.assertEqual(bad_line(text), expected, text)
        if expected is None:
            self.assertEqual(write_desk(read_desk(text)), text)

    def test_sign_by_sign(self):
        for text in (TEXT, LONG):
            for at in range(len(text) + 1):
                self.held_against(text[:at])
                self.held_against(text[:at] + text[at + 1:])
                for sign in " \nabz019A\t\r-":
                    self.held_against(text[:at] + sign + text[at:])
                    self.held_against(text[:at] + sign + text[at + 1:])

    def test_line_by_line(self):
        for text in (TEXT, LONG):
            lines = text.splitlines(True)
            others = [*lines, "road c a\n", "open b d\n", "open d b\n", "watch open\n", "hold houses d\n", "house e 1\n",
                      "house b 2\n", "\n", "watch houses d\n", "road a zz\n"]
            for at in range(len(lines) + 1):
                self.held_against("".join(lines[:at] + lines[at + 1:]))
                for line in others:
                    self.held_against("".join(lines[:at] + [line] + lines[at:]))
                    self.held_against("".join(lines[:at] + [line] + lines[at + 1:]))
                for far in range(at):
                    turned = list(lines)
                    turned[far:at] = turned[far:at][::-1]
                    self.held_against("".join(turned))

    def test_all_orders(self):
        lines = ["house a 1\n", "house b 2\n", "road b a\n", "open b a\n", "watch open\n", "hold joined a b\n"]
        for many in range(len(lines) + 1):
            for some in itertools.permutations(lines, many):
                self.held_against("".join(some))

    def test_words(self):
        chance = random.Random(6)
        words = ["house", "road", "open", "watch", "hold", "feasts", "common", "a", "b", "zz", "1", "0", "12", ""]
        for _ in range(3000):
            lines = LONG.split("\n")
            for _ in range(chance.randrange(1, 3)):
                at = chance.randrange(len(lines))
                parts = lines[at].split(" ")
                where = chance.randrange(len(parts) + 1)
                parts[where:where + chance.randrange(3)] = chance.choices(words, k=chance.randrange(3))
                lines[at] = " ".join(parts)
            self.held_against("\n".join(lines))


class Long(unittest.TestCase):
    def test_twelve_houses(self):
        for valley in [star(12, [10 ** 9 - 1] * 12), tree(12, 4)]:
            desk = begun(valley, *[("open", *road) for road in valley.roads()[::-1]],
                         *[("hold", question) for question in all_questions(valley)[-5:]])
            self.assertEqual(read_desk(write_desk(desk)), desk)

    def test_eight_thousand_signs(self):
        names = names_of(12)
        text = plain_text(Desk(star(12)))
        questions = [f"watch {word} {one} {other}\n" for word in ("common", "joined")
                     for one, other in itertools.permutations(names, 2)]
        text += "".join(questions)
        self.assertEqual(len(read_desk(text).watched()), 264)
        self.assertEqual(bad_line(text + questions[3]), 12 + 11 + 264 + 1)
        houses = "".join(f"house h{at} 1\n" for at in range(2000))
        self.assertEqual(bad_line(houses), 2001)
        self.assertEqual(bad_line(houses + "road h0 h1\n" * 2), 2002)
        self.assertEqual(bad_line("\n" * 8000), 1)
        self.assertEqual(bad_line(TEXT + "x" * 8000), 11)
