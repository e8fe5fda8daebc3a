"""The limits, and the names of what the interface lists."""

import inspect
import unittest
from importlib import import_module

from restworld import limits

LISTED = {
    "numbers": {
        "common": "one other", "multiple": "one other", "combined": "one other", "apart": "base", "divisors": "base",
        "is_prime": "number", "often_in": "number prime", "often_in_product": "number prime", "least_product": "base",
    },
    "facts": {
        "fits": "facts number", "quarrels": "facts", "joined": "facts", "rest_by": "facts base", "tells": "facts fact",
        "needless": "facts", "count": "facts low high", "nth": "facts low index", "least_telling": "facts fact",
    },
    "doubts": {
        "kept_sets": "facts", "fewest_wrong": "facts", "nearest": "facts low high", "told_though": "facts wrong base",
    },
    "rows": {
        "reach": "bases", "row_of": "bases number", "number_of": "bases row", "added": "bases one other",
        "taken": "bases one other", "multiplied": "bases one other", "places": "bases row",
        "compared": "bases one other", "is_over": "bases one other", "rest_of": "bases row base",
        "divided": "bases row number", "mended": "bases row bound",
    },
    "lamps": {
        "is_dark": "lamps number", "count_dark": "lamps low high", "dark_from": "lamps number",
        "nth_dark": "lamps number index", "dark_share": "lamps", "share_lit": "lamps many", "longest_lit": "lamps",
        "lit_from": "lamps many",
    },
    "covers": {
        "covers": "lamps", "are_exact": "lamps", "needless_lamps": "lamps", "least_covers": "lamps",
        "coverings": "bases",
    },
    "sums": {
        "value": "terms number", "value_by": "terms number base", "slope": "terms", "steps": "terms",
        "sum_of_steps": "steps", "added": "one other", "multiplied": "one other", "led": "one other",
    },
    "functions": {
        "same": "one other base", "first_unlike": "one other base", "least_form": "terms base", "how_many": "base",
        "least_nothing": "base", "is_table": "values base", "form_of_table": "values base", "turns": "terms base",
        "how_many_turn": "base", "back_form": "terms base",
    },
    "rings": {
        "rings": "terms base", "ring_of": "terms base number", "tail": "terms base number",
        "longest_tail": "terms base", "after": "terms base number times",
    },
    "zeros": {
        "is_zero": "terms number base", "count_zeros": "terms base", "zeros": "terms base", "barring": "terms most",
        "whole_zeros": "terms",
    },
    "endless": {
        "count_by_power": "terms prime often", "above": "terms prime often number", "count_endless": "terms prime",
        "endless": "terms prime often", "rule": "terms prime", "has_all_powers": "terms prime",
        "first_power_without": "terms prime",
    },
    "powers": {
        "power_rest": "number power base", "is_open": "number base", "back": "number base", "order": "number base",
        "count_open": "base", "common_order": "base", "parts": "base", "leader": "base",
        "tail_and_round": "number base", "exponents": "number other base", "tower_rest": "values base",
        "count_roots": "number power base", "roots": "number power base",
    },
    "runs": {
        "at": "run index", "rest_at": "run index base", "sum_rest": "run index base", "tail_and_round_of": "run base",
        "growth": "run prime", "entry": "first second base", "common_value": "first second index other",
        "shown_rests": "run base",
    },
    "circles": {
        "circle_of": "values", "fact_circle": "fact", "both": "one other", "either": "one other",
        "without": "one other", "rest_of": "one", "sums": "one other", "gaps_between": "one other",
        "stretched": "one many", "shrunk": "one many", "moved": "one by", "is_endless": "one", "share": "one",
        "next_in": "one number", "count_below": "one number", "nth": "one index", "is_within": "one other",
        "first_apart": "one other", "made": "one", "needed": "one", "greatest_gap": "one", "count_gaps": "one",
    },
}
CLASSES = {("circles", "Circle"): ("early start base rests", "early start base rests", "")}


class Limits(unittest.TestCase):
    def test_each_limit(self):
        wanted = {
            "MOST_NUMBER": 10 ** 40, "MOST_FACT": 10 ** 30, "MOST_BASE": 10 ** 12, "MOST_FACTS": 40, "MOST_LAMPS": 12,
            "MOST_DEGREE": 12, "MOST_PRIME": 1000, "MOST_OFTEN": 1000, "MOST_WALKED": 5000, "MOST_LISTED": 5000,
        }
        for name, value in wanted.items():
            self.assertIs(type(getattr(limits, name)), int)
            self.assertEqual(getattr(limits, name), value, name)


class Listed(unittest.TestCase):
    def test_each_function_stands_in_its_file_with_its_arguments(self):
        for place, functions in LISTED.items():
            module = import_module(f"restworld.{place}")
            for name, names in functions.items():
                function = getattr(module, name)
                self.assertTrue(inspect.isfunction(function), name)
                self.assertEqual(function.__module__, module.__name__)
                parameters = inspect.signature(function).parameters.values()
                self.assertEqual([parameter.name for parameter in parameters], names.split(), name)
                for parameter in parameters:
                    self.assertIs(parameter.kind, parameter.POSITIONAL_OR_KEYWORD)
                    self.assertIs(parameter.default, parameter.empty)

    def test_each_class_stands_in_its_file_with_its_properties_and_methods(self):
        for (place, name), (names, properties, methods) in CLASSES.items():
            module = import_module(f"restworld.{place}")
            one = getattr(module, name)
            self.assertEqual(one.__module__, module.__name__)
            self.assertEqual(list(inspect.signature(one).parameters), names.split())
            for word in properties.split():
                self.assertIsInstance(vars(one)[word], property)
            for word in methods.split():
                self.assertTrue(inspect.isfunction(vars(one)[word]))
