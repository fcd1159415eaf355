"""Points [1] and [3]: all functions and classes with their parameters, each defined in its own file."""

import importlib
import inspect
import unittest

INTERFACE = {
    "bodies": {
        "beside": "cell", "parts_of": "cells", "hangs": "cells", "is_body": "value", "body_of": "cells",
        "neighbours_of": "body cell", "free_squares": "body", "cut_squares": "body", "frame_of": "body",
        "moved": "body by", "shape_of": "body",
    },
    "moves": {"kind_of": "body start end", "moves_of": "body", "done": "body start end"},
    "plans": {
        "first_wrong": "body plan", "bodies_of": "body plan", "end_of": "body plan", "back": "plan",
        "moved_plan": "plan by",
    },
    "borders": {
        "regions": "body", "region_at": "body cell", "border": "body region", "gaps": "body", "hung": "body",
    },
    "walks": {"reach": "body start", "walk": "body start end", "walk_length": "body start end"},
    "rows": {
        "outer_free": "body", "parts_without": "body square", "loosened": "body", "Loosened": "steps moves body",
        "nook_of": "body", "plan_to_row": "body", "Rowed": "steps moves row", "bound_to_row": "many wide high",
    },
    "joining": {
        "row_at": "first n", "column_at": "first n", "crawl": "first n by", "climb": "first n by",
        "stand": "first n", "lie": "first n", "row_plan": "first other n", "plan_between": "body other",
        "bound_between": "body other",
    },
    "small": {
        "all_shapes": "n", "layers": "body", "Least": "plan by", "least_plan": "body other", "farthest": "n",
    },
    "shorter": {
        "without_returns": "body plan", "joined": "body plan", "few_moves": "body other", "tightened": "body plan",
        "shorter": "body plan",
    },
}


class InterfaceTest(unittest.TestCase):
    def test_all_is_there(self):
        for file, told in INTERFACE.items():
            module = importlib.import_module(f"slideinto.{file}")
            for name, parameters in told.items():
                thing = getattr(module, name)
                self.assertEqual(thing.__module__, f"slideinto.{file}")
                self.assertEqual(list(inspect.signature(thing).parameters), parameters.split(), name)

    def test_objects_have_just_what_stands_in_the_parentheses(self):
        for file, told in INTERFACE.items():
            module = importlib.import_module(f"slideinto.{file}")
            for name, parameters in told.items():
                if name[0].isupper():
                    values = [object() for _ in parameters.split()]
                    self.assertEqual(vars(getattr(module, name)(*values)), dict(zip(parameters.split(), values)))
