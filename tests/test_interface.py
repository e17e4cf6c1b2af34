"""The names, parameters and homes of what the document's interface lists, and what all of it keeps to."""

import copy
import importlib
import inspect
import unittest

from tests.plain_search import small_webs, wide_web

INTERFACE = {
    "webs": {
        "is_web": "(thing)", "walk_end": "(web, walk)", "nodes_met": "(web)", "walk_apart": "(web, other)",
        "difference": "(web, other)",
    },
    "rings": {
        "mean_most": "(web)", "mean_least": "(web)", "ring_most": "(web)", "ring_least": "(web)",
        "ring_shows": "(web, fraction, thing)", "means_from": "(web)",
    },
    "numbers": {
        "caps": "(web, fraction, thing)", "bears": "(web, fraction, thing)",
        "numbers_for": "(web, fraction, *, least=False)", "cap_numbers": "(web)", "bear_numbers": "(web)",
        "tight_moves": "(web, *, least=False)", "room_of": "(web, node, index)", "sum_most": "(web)",
        "sum_walk": "(web)", "sums_after": "(web, count)",
    },
}

# A right value for each parameter, for a web of small_webs.
VALUES = {"thing": ([], [0]), "walk": [0], "fraction": (2, 4), "node": 0, "index": 0, "count": 4}


def functions():
    for module, names in INTERFACE.items():
        for name in names:
            yield module, name, getattr(importlib.import_module(f"parlourday.{module}"), name)


def arguments(function, web):
    values = {**VALUES, "web": web, "other": web}
    return {
        name: copy.deepcopy(values[name]) for name, parameter in inspect.signature(function).parameters.items()
        if parameter.kind is parameter.POSITIONAL_OR_KEYWORD
    }


class Interface(unittest.TestCase):
    def test_each_is_defined_in_its_file_with_its_parameters(self):
        for module, name, function in functions():
            with self.subTest(name):
                self.assertTrue(inspect.isfunction(function))
                self.assertEqual(function.__module__, f"parlourday.{module}")
                self.assertEqual(function.__name__, name)
                self.assertEqual(str(inspect.signature(function)), INTERFACE[module][name])

    def test_by_position_and_by_name_and_again(self):
        for web in [*small_webs(41, 10), wide_web(42)]:
            for _, name, function in functions():
                values = arguments(function, web)
                before = copy.deepcopy(values)
                with self.subTest(name):
                    found = function(**values)
                    self.assertEqual(found, function(*values.values()))
                    self.assertEqual(values, before)
                    kept = copy.deepcopy(found)
                    if isinstance(found, list):
                        found.append(None)
                    self.assertEqual(function(**values), kept)


if __name__ == "__main__":
    unittest.main()
