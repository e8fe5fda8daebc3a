"""The limits, and the names of what the interface lists."""

import inspect
import unittest
from importlib import import_module

from restworld import limits

LISTED = {
    "numbers": {
        "common": "one other", "multiple": "one other", "combined": "one other", "apart": "base", "divisors": "base",
        "is_prime": "number", "often_in": "number prime", "often_in_product": "number prime", "least_product": "base",
    },
    "facts": {
        "fits": "facts number", "quarrels": "facts", "joined": "facts", "rest_by": "facts base", "tells": "facts fact",
        "needless": "facts", "count": "facts low high", "nth": "facts low index", "least_telling": "facts fact",
    },
    "doubts": {
        "kept_sets": "facts", "fewest_wrong": "facts", "nearest": "facts low high", "told_though": "facts wrong base",
    },
    "rows": {
        "reach": "bases", "row_of": "bases number", "number_of": "bases row", "added": "bases one other",
        "taken": "bases one other", "multiplied": "bases one other", "places": "bases row",
        "compared": "bases one other", "is_over": "bases one other", "rest_of": "bases row base",
        "divided": "bases row number", "mended": "bases row bound",
    },
    "lamps": {
        "is_dark": "lamps number", "count_dark": "lamps low high", "dark_from": "lamps number",
        "nth_dark": "lamps number index", "dark_share": "lamps", "share_lit": "lamps many", "longest_lit": "lamps",
        "lit_from": "lamps many",
    },
    "covers": {
        "covers": "lamps", "are_exact": "lamps", "needless_lamps": "lamps", "least_covers": "lamps",
        "coverings": "bases",
    },
}


class Limits(unittest.TestCase):
    def test_each_limit(self):
        wanted = {
            "MOST_NUMBER": 10 ** 40, "MOST_FACT": 10 ** 30, "MOST_BASE": 10 ** 12, "MOST_FACTS": 40, "MOST_LAMPS": 12,
            "MOST_DEGREE": 12, "MOST_PRIME": 1000, "MOST_OFTEN": 1000, "MOST_WALKED": 5000, "MOST_LISTED": 5000,
        }
        for name, value in wanted.items():
            self.assertIs(type(getattr(limits, name)), int)
            self.assertEqual(getattr(limits, name), value, name)


class Listed(unittest.TestCase):
    def test_each_function_stands_in_its_file_with_its_arguments(self):
        for place, functions in LISTED.items():
            module = import_module(f"restworld.{place}")
            for name, names in functions.items():
                function = getattr(module, name)
                self.assertTrue(inspect.isfunction(function), name)
                self.assertEqual(function.__module__, module.__name__)
                parameters = inspect.signature(function).parameters.values()
                self.assertEqual([parameter.name for parameter in parameters], names.split(), name)
                for parameter in parameters:
                    self.assertIs(parameter.kind, parameter.POSITIONAL_OR_KEYWORD)
                    self.assertIs(parameter.default, parameter.empty)
