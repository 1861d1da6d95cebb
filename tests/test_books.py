"""The books of one evening tell one another, whichever of them is at hand."""

import unittest

from feasted.alikes import alike_at, alike_number, count_alike, count_begun
from feasted.begun import begun_of_feasts, feasts_so_far, open_roads
from feasted.bread import left_together, loaves
from feasted.chances import chance_alike
from feasted.dates import evening_of_dates, feasts_till
from feasted.datespans import can_be, dates_for
from feasted.dayplans import count_days, earliest_plan, fewest_days, is_plan
from feasted.desks import Desk
from feasted.desktexts import read_desk, write_desk
from feasted.doubts import all_fitting, suspects, wrong_and_right
from feasted.errors import BadFeasts
from feasted.evenings import are_alike, feasts_of, first_alike, parts
from feasted.exchanges import exchange_row
from feasted.farewells import closing_of, farewells
from feasted.feastspans import evening_for, feasts_bar
from feasted.gatelists import evening_of_list, gate_list, hands, twin
from feasted.grown import joint_feasts, side_feasts, with_house, without_house
from feasted.halves import evening_of_feasts, feasts_break, last_road, parts_of_feasts
from feasted.histories import history
from feasted.joins import join_of, side_evening, side_valley
from feasted.lackingwidths import rest_break, width_lacking, wrong_widths
from feasted.lastaskers import run_asker
from feasted.logs import evening_of_log, log_of
from feasted.looks import begun_through, can_end_with
from feasted.nights import night_break, night_of_numbers
from feasted.openers import opened_by, opened_for
from feasted.roadnumbers import (evening_of_numbers, number_lacking, numbers_break, numbers_of_feasts, road_numbers,
                                 roads_break, side_digits)
from feasted.rowcounts import counts_break, evening_of_counts
from feasted.rowsandstars import is_row
from feasted.somepairs import count_by_pairs, evening_by_pairs
from feasted.sums import calls_of, sums_of
from feasted.sumsback import evening_of_sums, feasts_by_sums, sum_lacking, sums_break, sums_by_feasts
from feasted.tables import evening_of_table, feasts_by_table, first_joined, table_by_feasts, table_clash, table_of
from feasted.teams import plan_by_teams
from feasted.unlikenumbers import unlike_at, unlike_number
from feasted.widths import evening_of_widths, feasts_by_widths, widths_break, widths_by_feasts, widths_of
from tests.helpers import (all_evenings, alike_ones, big_evenings, big_valleys, halved_evening, plain_feasts, plain_lots,
                           refused, row, shuffled, small_valleys, tree)


def some_evenings():
    """All evenings of small valleys, and some of great ones."""
    for valley in small_valleys(5):
        for evening in all_evenings(valley):
            yield valley, evening
    for valley in small_valleys(6):
        for evening in all_evenings(valley)[5::17]:
            yield valley, evening
    for many in (13, 30):
        for seed in range(4):
            valley = tree(many, seed)
            yield valley, shuffled(valley, seed)
    yield row(30), halved_evening(row(30))


class Books(unittest.TestCase):
    def test_all(self):
        for valley, evening in some_evenings():
            self.tell_one_another(valley, evening)
            self.told_by_feasts(valley, evening)

    def test_sixty(self):
        for valley, evening in list(big_evenings())[3::4]:
            self.told_by_feasts(valley, evening)
        for valley in big_valleys()[::2]:
            self.tell_one_another(valley, shuffled(valley, 4))

    def tell_one_another(self, valley, evening):
        """From each book the first evening that is alike comes back."""
        first = first_alike(valley, evening)
        feasts = plain_feasts(valley, evening)
        self.assertEqual(feasts_of(valley, evening), feasts)
        numbers, sums, widths = road_numbers(valley, evening), sums_of(valley, evening), widths_of(valley, evening)
        table = table_of(valley, evening)
        for function, book in [(evening_of_feasts, feasts), (evening_of_numbers, numbers), (evening_of_sums, sums),
                               (evening_of_widths, widths), (evening_of_table, table), (begun_of_feasts, feasts)]:
            self.assertEqual(function(valley, book), first, function.__name__)
        for function, book in [(feasts_break, feasts), (roads_break, feasts), (numbers_break, numbers),
                               (sums_break, sums), (widths_break, widths), (table_clash, table)]:
            self.assertIsNone(function(valley, book), function.__name__)
        for function, book in [(feasts_by_sums, sums), (feasts_by_widths, widths), (feasts_by_table, table)]:
            self.assertEqual(function(valley, book), feasts, function.__name__)
        for function, book in [(sums_by_feasts, sums), (widths_by_feasts, widths), (table_by_feasts, table),
                               (numbers_of_feasts, numbers), (parts_of_feasts, parts(valley, evening))]:
            self.assertEqual(function(valley, feasts), book, function.__name__)
        self.at_gates(valley, evening, first)
        self.one_lacks(valley, numbers, sums, widths)

    def at_gates(self, valley, evening, first):
        gates = valley.houses()[:3] + valley.houses()[-1:]
        for gate in gates:
            names = gate_list(valley, evening, gate)
            self.assertEqual(evening_of_list(valley, gate, names), first)
            for other in gates:
                self.assertEqual(twin(valley, gate, names, other), gate_list(valley, evening, other))
            if is_row(valley) and len(valley.beside(gate)) == 1:
                counts = {house: len(hands(valley, evening, gate, house)) for house in names}
                self.assertEqual(evening_of_counts(valley, gate, counts), first)
                self.assertIsNone(counts_break(valley, gate, counts))

    def one_lacks(self, valley, numbers, sums, widths):
        for house in valley.houses()[:3]:
            known = {far: sums[far] for far in sums if far != house}
            self.assertEqual(sum_lacking(valley, known), sums[house])
        for road in valley.roads()[:3]:
            self.assertEqual(number_lacking(valley, {far: numbers[far] for far in numbers if far != road}), numbers[road])
            rest = {far: widths[far] for far in widths if far != road}
            self.assertEqual((width_lacking(valley, rest), rest_break(valley, rest)), (widths[road], None))
            self.assertEqual(wrong_widths(valley, {**widths, road: widths[road] + 1}).count((road, widths[road])), 1)

    def told_by_feasts(self, valley, evening):
        """What feasts alone tell comes to the same as what the evening tells."""
        feasts = plain_feasts(valley, evening)
        roads = valley.roads()
        wide = [(-5, 10 ** 15)] * len(roads)
        told = [evening_for(valley, wide, feasts), opened_for(valley, feasts, lambda opened, free: free[-1]),
                Desk(valley).way_to(feasts), exchange_row(valley, evening, first_alike(valley, evening))[-1],
                [road for day in earliest_plan(valley, evening) for road in day],
                [road for day in plan_by_teams(valley, evening, 2) for road in day],
                closing_of(valley, feasts)[::-1], evening_of_dates(valley, dates_for(valley, wide, evening)),
                begun_through(valley, [feasts_so_far(valley, evening[:many]) for many in range(0, len(evening) + 1, 2)]
                              + [feasts])]
        for other in told:
            self.assertTrue(are_alike(valley, evening, other))
            self.assertTrue(can_be(valley, wide, other))
        self.assertIsNone(feasts_bar(valley, wide, feasts))
        self.assertEqual(farewells(valley, evening[::-1]), feasts)
        self.assertEqual(night_of_numbers(valley, feasts, feasts),
                         (evening_of_feasts(valley, feasts), closing_of(valley, feasts)))
        self.assertIsNone(night_break(valley, feasts, feasts))
        self.assertEqual(last_road(valley, feasts), evening[-1] if evening else None)
        self.assertEqual(fewest_days(valley, evening), max(feasts.values()))
        self.assertEqual(loaves(valley, evening), sum(people * feasts[house] for house, people in
                                                      zip(valley.houses(), valley.heads())))
        self.assertEqual(left_together(valley, evening, dict.fromkeys(feasts, 1)), (1, 1))
        self.so_far(valley, evening, feasts)
        self.of_roads(valley, evening, feasts)
        self.of_houses(valley, evening, feasts)

    def so_far(self, valley, evening, feasts):
        half = evening[:len(evening) // 2]
        begun = feasts_so_far(valley, half)
        self.assertEqual(sorted(open_roads(valley, begun)), sorted(half))
        self.assertIs(can_end_with(valley, half, feasts), True)
        dates = [(evening.index(road), 1) for road in valley.roads()]
        self.assertEqual(evening_of_dates(valley, dates), evening)
        self.assertEqual(feasts_till(valley, dates, (len(half) - 1, 1)), begun)
        desk = Desk(valley)
        for road in half:
            desk.do(("open", *road))
        self.assertEqual({house: desk.answer(("feasts", house)) for house in begun}, begun)
        if all(people < 10 ** 9 for people in valley.heads()):
            self.assertEqual(read_desk(write_desk(desk)), desk)
        self.assertIsNone(desk.goal_fault(feasts))
        self.assertTrue(are_alike(valley, evening, half + desk.way_to(feasts)))

    def of_roads(self, valley, evening, feasts):
        for one, other in valley.roads()[:4]:
            mine, theirs = side_feasts(valley, feasts, one, other), side_feasts(valley, feasts, other, one)
            first, second = side_valley(valley, one, other), side_valley(valley, other, one)
            self.assertEqual(feasts_of(first, side_evening(valley, evening, one, other)), mine)
            join = join_of(valley, evening, one, other)
            self.assertEqual(joint_feasts(first, mine, second, theirs, one, other, join), feasts)
            self.assertEqual(mine[one] - join[0] + theirs[other] - join[1], len(join[2]))
            digits = [1 if house == other else 0 for _, house in history(valley, evening, one, other)] + [1]
            self.assertEqual(side_digits(valley, feasts, one, other), digits)
            self.assertEqual(first_joined(valley, evening, one, other), (one, other))

    def of_houses(self, valley, evening, feasts):
        for house in valley.houses()[:3]:
            log = log_of(valley, evening, house)
            self.assertEqual(log_of(valley, evening_of_log(valley, house, log), house), log)
            self.assertEqual(len(log), feasts[house])
            others = {far: feasts[far] for far in feasts if far != house}
            if others:
                self.assertEqual(all_fitting(valley, others), [feasts])
            wrong = {**feasts, house: feasts[house] + 1}
            self.assertIn(house, suspects(valley, wrong))
            self.assertEqual(wrong_and_right(valley, wrong), (feasts[house] + 1, feasts[house]))
            self.assertEqual(feasts_break(valley, wrong)[0], "sum")
            refused(self, BadFeasts, {"feasts": wrong}, lambda: without_house(valley, wrong, house))
            grown, more = with_house(valley, feasts, "new", 3, house, feasts[house])
            self.assertEqual(without_house(grown, more, "new"), (valley, feasts))


class Alike(unittest.TestCase):
    def test_classes(self):
        """All evenings fall into lots of alike ones: numbered, counted, and by chance."""
        for valley in small_valleys(5):
            lots = alike_ones(valley)
            every = sum(len(alike) for alike in lots)
            for number in range(len(lots)):
                self.assertIn(unlike_at(valley, number), [alike[0] for alike in lots])
            for alike in lots:
                self.assertEqual([alike_at(valley, alike[-1], number) for number in range(len(alike))], alike)
                self.assertEqual(unlike_at(valley, unlike_number(valley, alike[-1])), alike[0])
                top, bottom = chance_alike(valley, alike[0])
                self.assertEqual(top * every, bottom * len(alike))
                for number, evening in enumerate(alike):
                    self.one_of_them(valley, evening, alike, number)
            self.assertEqual(count_by_pairs(valley, {}), len(lots))

    def one_of_them(self, valley, evening, alike, number):
        self.assertEqual((count_alike(valley, evening), alike_number(valley, evening)), (len(alike), number))
        self.assertEqual(evening_by_pairs(valley, table_of(valley, evening)), alike[0])
        self.assertEqual(count_begun(valley, evening, evening[:2]),
                         len([each for each in alike if each[:2] == evening[:2]]))
        self.assertEqual(calls_of(valley, evening), calls_of(valley, alike[0]))
        self.assertTrue(is_plan(valley, evening, [[road] for road in alike[-1]]))
        self.assertGreaterEqual(count_days(valley, evening, len(evening)), len(alike))


class Callers(unittest.TestCase):
    def test_functions_handed_in(self):
        """An opener and an asker that go by the books come to the evening, and to its last road."""
        for valley in small_valleys(5):
            for evening in all_evenings(valley)[::5]:
                feasts = plain_feasts(valley, evening)

                def opener(opened, lots):
                    self.assertEqual(lots, plain_lots(valley, opened))
                    return Desk(valley).way_to(feasts)[len(opened)]

                def asker(known):
                    silent = [house for house in valley.houses() if house not in dict(known)]
                    return silent[0] if silent else last_road(valley, dict(known))

                self.assertTrue(are_alike(valley, opened_by(valley, opener), evening))
                self.assertEqual(run_asker(valley, evening, asker), (valley.houses() if evening else [], True))
