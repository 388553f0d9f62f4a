"""The calls have the names and the arguments that the document tells."""

import inspect
import unittest

from halfrowsdesk import lanes

CALLS = {
    "do": "op way a b c",
    "holds": "how a b",
    "is_kind": "which a",
    "where": "mask a b",
    "times": "other way a b",
    "whole": "kind way a",
    "of": "kind way z",
    "to_float": "a",
    "of_float": "way x",
    "to_double": "a",
    "of_double": "way x",
    "sum_of": "way x",
    "poly": "way x c",
    "order": "x",
}


class Interface(unittest.TestCase):
    def test_names_and_arguments(self):
        for name, arguments in CALLS.items():
            parameters = inspect.signature(getattr(lanes, name)).parameters
            self.assertEqual(list(parameters), arguments.split(), name)
            for parameter in parameters.values():
                self.assertIs(parameter.default, inspect.Parameter.empty, name)
