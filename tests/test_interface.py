"""The interface: names, files and parameters, each defined where it is listed."""

import ast
import importlib
import inspect
import pathlib
import unittest

from feasted.desks import Desk
from feasted.errors import BadValley
from feasted.valleys import Valley
from tests.helpers import ANYTHING, EXAMPLE, refused

PACKAGE = pathlib.Path(__file__).resolve().parent.parent / "feasted"
LISTED = {
    "evenings": """is_evening(valley, thing) part_of(valley, evening, one, other) parts(valley, evening)
        parts_behind(valley, evening, many) are_alike(valley, evening, other) first_alike(valley, evening)
        feasts_of(valley, evening) at_table(valley, evening, house)""",
    "halves": """weight(valley, feasts, some) halving(valley, feasts, part) evening_of_feasts(valley, feasts)
        feasts_break(valley, feasts) parts_of_feasts(valley, feasts) last_road(valley, feasts)""",
    "roadnumbers": """road_numbers(valley, evening) side_digits(valley, feasts, one, other)
        evening_of_numbers(valley, numbers) numbers_break(valley, numbers) numbers_of_feasts(valley, feasts)
        roads_break(valley, feasts) number_lacking(valley, rest)""",
    "histories": "history(valley, evening, one, other)",
    "doubts": """all_fitting(valley, told) suspects(valley, feasts) wrong_and_right(valley, feasts)
        exchanged(valley, feasts) all_within(valley, bounds)""",
    "sums": "size(valley, some) sums_of(valley, evening) calls_of(valley, evening)",
    "sumsback": """evening_of_sums(valley, sums) sums_break(valley, sums) feasts_by_sums(valley, sums)
        sums_by_feasts(valley, feasts) sum_lacking(valley, known)""",
    "widths": """widths_of(valley, evening) evening_of_widths(valley, widths) widths_break(valley, widths)
        feasts_by_widths(valley, widths) widths_by_feasts(valley, feasts)""",
    "lackingwidths": "width_lacking(valley, rest) rest_break(valley, rest) wrong_widths(valley, widths)",
    "gatelists": """gate_list(valley, evening, gate) lists_behind(valley, evening, gate, many)
        hands(valley, evening, gate, house) evening_of_list(valley, gate, names) list_break(valley, gate, names)
        twin(valley, gate, names, other)""",
    "rowcounts": "evening_of_counts(valley, gate, counts) counts_break(valley, gate, counts)",
    "tables": """common(valley, evening, some) table_of(valley, evening) first_joined(valley, evening, one, other)
        joined_first(valley, evening, one, other, third) evening_of_table(valley, table) table_clash(valley, table)
        with_often(valley, table, house, many) feasts_by_table(valley, table) table_by_feasts(valley, feasts)""",
    "somepairs": "count_by_pairs(valley, pairs) evening_by_pairs(valley, pairs)",
    "alikes": """count_alike(valley, evening) always_ahead(valley, evening, road, far) alike_at(valley, evening, number)
        alike_number(valley, evening) next_alike(valley, evening) can_be_next(valley, evening, opened)
        count_begun(valley, evening, opened)""",
    "alikeplaces": """ahead_share(valley, evening, road, far) place_span(valley, evening, road)
        place_counts(valley, evening, road) mean_place(valley, evening, road)""",
    "exchanges": "fewest_exchanges(valley, evening, other) exchange_row(valley, evening, other)",
    "chances": """chance_joined(valley, one, other, number) mean_joined(valley, one, other)
        chance_there(valley, house, one, other) chance_both(valley, house, guest, one, other)
        chances_first(valley, house, one, other) chance_alike(valley, evening)""",
    "oftens": "chances_feasts(valley, house) drawn_evening(valley, chooser)",
    "unlikes": """count_unlike(valley) count_last(valley, one, other) count_by_feasts(valley, house)
        mean_of_unlike(valley, house)""",
    "unlikenumbers": "unlike_at(valley, number) unlike_number(valley, evening)",
    "rowsandstars": "is_row(valley) is_star(valley) count_row(many) count_star(many) row_end(many, often)",
    "logs": """log_of(valley, evening, house) evening_of_log(valley, house, log) log_fault(valley, house, log)
        evenings_with_log(valley, house, log) feasts_by_log(valley, house, log, other)""",
    "writers": """see_alike(valley, evening, other_evening, lot) unseen(valley, evening, lot)
        count_unseen(valley, evening, lot) tell_evening(valley, evening, lot) fewest_writers(valley, evening)
        tell_always(valley, lot) always_writers(valley) apart_threes(valley)""",
    "dates": """evening_of_dates(valley, dates) joined_on(valley, dates, one, other)
        feasts_till(valley, dates, date)""",
    "datespans": """surely_ahead(valley, spans) can_be(valley, spans, evening) dates_for(valley, spans, evening)
        bar_of(valley, spans, evening) surely_there(valley, spans, one, other)
        perhaps_there(valley, spans, one, other) joined_span(valley, spans, one, other)""",
    "feastspans": """feast_span(valley, spans, house) evening_with(valley, spans, house, number)
        evening_for(valley, spans, feasts) feasts_bar(valley, spans, feasts)""",
    "dayplans": """is_plan(valley, evening, thing) fewest_days(valley, evening) earliest_plan(valley, evening)
        day_spans(valley, evening, days) count_days(valley, evening, days)""",
    "teams": "plan_by_teams(valley, evening, teams) crowd(valley, evening, teams) quickest(valley)",
    "begun": """is_begun(valley, thing) feasts_so_far(valley, begun) lots(valley, begun)
        is_open(valley, feasts, one, other) open_roads(valley, feasts) begun_of_feasts(valley, feasts)
        begun_break(valley, feasts)""",
    "looks": """begun_through(valley, looks) looks_fault(valley, looks) still_to_come(valley, begun)
        can_end_with(valley, begun, feasts)""",
    "joins": """joined_valley(first, second, house, far) side_valley(valley, one, other)
        side_evening(valley, evening, one, other) join_of(valley, evening, one, other)
        joint_evening(first, evening, second, other_evening, house, far, join)
        count_joins(first, evening, second, other_evening, house, far)""",
    "grown": """joint_feasts(first, feasts, second, other_feasts, house, far, join)
        side_feasts(valley, feasts, one, other) with_house(valley, feasts, name, people, house, many)
        without_house(valley, feasts, house)""",
    "bread": """loaves(valley, evening) bringers(valley, evening) leavings(valley, evening, heaps)
        left_together(valley, evening, heaps)""",
    "growths": """is_growth(valley, thing) growth_from(valley, house) most_loaves(valley) hungriest(valley)
        least_loaves(valley) thriftiest(valley)""",
    "farewells": """farewells(valley, closing) parted_by(valley, closing, one, other)
        still_joined(valley, closing, house, many) closing_of(valley, feasts) closing_break(valley, feasts)""",
    "nights": """together(valley, evening, closing, one, other) longest(valley, evening, closing)
        night_of(valley, evening, closing, house) night_of_numbers(valley, feasts, others)
        night_break(valley, feasts, others)""",
    "openers": "opened_by(valley, opener) opened_for(valley, feasts, opener)",
    "lastaskers": "run_asker(valley, evening, asker) beaten_by(valley, asker)",
    "desktexts": "write_desk(desk) read_desk(text)",
    "means": """mean_feasts(valley, house) mean_common(valley, house, guest) mean_people(valley, one, other)
        mean_meals(valley)""",
}
METHODS = {
    Valley: {"__init__": ["houses", "roads", "heads"], "houses": [], "roads": [], "heads": [], "beside": ["house"],
             "way": ["one", "other"], "side": ["one", "other"], "__eq__": ["other"]},
    Desk: {"__init__": ["valley"], "valley": [], "opened": [], "watched": [], "do": ["deed"], "is_question": ["thing"],
           "answer": ["question"], "way_to": ["goal"], "goal_fault": ["goal"], "would": ["deed"], "free_roads": [],
           "count": [], "undo": [], "again": [], "deeds": [], "at": ["number"], "copy": [], "trial": ["work"],
           "__eq__": ["other"]},
}


def listed():
    for file, words in LISTED.items():
        for call in words.replace("\n", " ").split(")"):
            if call.strip():
                name, parameters = call.strip().split("(")
                yield file, name, parameters.split(", ")


class Interface(unittest.TestCase):
    def test_functions(self):
        for file, name, parameters in listed():
            with self.subTest(file=file, name=name):
                function = getattr(importlib.import_module(f"feasted.{file}"), name)
                told = inspect.signature(function).parameters.values()
                self.assertEqual([parameter.name for parameter in told], parameters)
                for parameter in told:
                    self.assertEqual(parameter.kind, parameter.POSITIONAL_OR_KEYWORD)
                    self.assertIs(parameter.default, parameter.empty)
                self.assertEqual(function.__module__, f"feasted.{file}")

    def test_defined_where_listed(self):
        for file, name, _ in listed():
            tree = ast.parse((PACKAGE / f"{file}.py").read_text())
            self.assertIn(name, [node.name for node in tree.body if isinstance(node, ast.FunctionDef)])

    def test_no_valley(self):
        """What is no Valley is refused ahead of all, whatever else is passed."""
        for file, name, parameters in listed():
            function = getattr(importlib.import_module(f"feasted.{file}"), name)
            for at, parameter in enumerate(parameters):
                if parameter in ("valley", "first", "second"):
                    for thing in ANYTHING:
                        if not isinstance(thing, Valley):
                            passed = [EXAMPLE if each in ("first", "second") else None for each in parameters]
                            passed[at] = thing
                            with self.subTest(name=name, parameter=parameter):
                                refused(self, BadValley, {"thing": thing}, lambda: function(*passed))

    def test_is_or_asks(self):
        """What is named is_.., of any object, tells True or False."""
        for file, name, parameters in listed():
            if name.startswith("is_") and parameters[-1] == "thing":
                function = getattr(importlib.import_module(f"feasted.{file}"), name)
                passed = [EXAMPLE, *[EXAMPLE.roads() for each in parameters[1:-1]]]
                for thing in [*ANYTHING, EXAMPLE.roads()]:
                    self.assertIn(function(*passed, thing).__class__, [bool])

    def test_classes(self):
        for kind, methods in METHODS.items():
            for name, parameters in methods.items():
                self.assertIn(name, vars(kind))
                self.assertEqual(list(inspect.signature(vars(kind)[name]).parameters)[1:], parameters)
        self.assertEqual((Valley.__module__, Desk.__module__), ("feasted.valleys", "feasted.desks"))
