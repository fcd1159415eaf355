"""Points [1] and [3]: all functions and classes with their parameters, each defined in its own file."""

import importlib
import inspect

from tests.helper import Case, ring, row, spiral

from slideinto.below import paper_of
from slideinto.desk import Desk
from slideinto.joining import plan_between
from slideinto.moves import moves_of
from slideinto.named import placed
from slideinto.plans import end_of
from slideinto.story import Story
from slideinto.ties import steps_of
from slideinto.worlds import World

INTERFACE = {
    "errors": {
        "BadText": "line column", "BadNumber": "what number", "BadName": "name", "BadCell": "cell", "BadBody": "cells",
        "NoName": "name", "TakenName": "name", "NotThere": "cell", "NoMove": "start end", "TooMany": "what many limit",
        "NotKept": "promise witness", "NothingToUndo": "", "NothingToRedo": "",
    },
    "bodies": {
        "beside": "cell", "parts_of": "cells", "hangs": "cells", "is_body": "value", "body_of": "cells",
        "neighbours_of": "body cell", "free_squares": "body", "cut_squares": "body", "frame_of": "body",
        "moved": "body by", "shape_of": "body",
    },
    "moves": {"kind_of": "body start end", "moves_of": "body", "done": "body start end"},
    "plans": {
        "first_wrong": "body plan", "bodies_of": "body plan", "end_of": "body plan", "back": "plan",
        "moved_plan": "plan by",
    },
    "borders": {
        "regions": "body", "region_at": "body cell", "border": "body region", "gaps": "body", "hung": "body",
    },
    "walks": {"reach": "body start", "walk": "body start end", "walk_length": "body start end"},
    "rows": {
        "outer_free": "body", "parts_without": "body square", "loosened": "body", "Loosened": "steps moves body",
        "nook_of": "body", "plan_to_row": "body", "Rowed": "steps moves row", "bound_to_row": "many wide high",
    },
    "joining": {
        "row_at": "first n", "column_at": "first n", "crawl": "first n by", "climb": "first n by",
        "stand": "first n", "lie": "first n", "row_plan": "first other n", "plan_between": "body other",
        "bound_between": "body other",
    },
    "small": {
        "all_shapes": "n", "layers": "body", "Least": "plan by", "least_plan": "body other", "farthest": "n",
    },
    "shorter": {
        "without_returns": "body plan", "joined": "body plan", "few_moves": "body other", "tightened": "body plan",
        "shorter": "body plan",
    },
    "ties": {
        "Step": "start end support witness", "holds": "body step", "first_loose": "body steps", "plan_of": "steps",
        "witness_of": "body start", "steps_of": "body plan", "reads_of": "step", "are_tied": "one two",
        "ties_of": "steps", "first_broken": "steps order", "in_order": "steps order", "order_by": "steps numbers",
        "rounds_of": "steps",
    },
    "worlds": {
        "World": "body target", "played": "body target deeds", "refused": "body target deeds", "meet": "bodies",
    },
    "story": {"picture_of": "body", "drawn": "body target", "Story": "text", "world_of": "story", "told": "story"},
    "desk": {"Desk": "text"},
    "named": {
        "is_placing": "value", "body_under": "places", "placed": "body names", "named_behind": "places plan",
        "order_of": "places", "turned_row": "first n", "held_row": "first n", "sorting": "order wished",
        "order_behind": "order steps", "can_become": "places goals", "plan_named": "places goals",
        "bound_named": "places goals",
    },
    "below": {
        "cost": "one two", "cost_of": "pairs", "below": "body other", "cheapest": "body other", "Paper": "ups downs",
        "is_paper": "body other paper", "sum_of": "paper", "paper_of": "body other", "waste": "body plan",
    },
    "blocks": {
        "filled": "body", "shut_lots": "body", "corner_counts": "cells", "joints_of": "body", "blocks_of": "body",
        "outermost": "body", "sure_movers": "body",
    },
    "letters": {"lettered": "places", "placing_of": "rows corner", "film": "places plan"},
}

METHODS = {
    ("worlds", "World"): {
        "move": "start end", "go": "many", "aim": "target", "plan": "", "is_there": "", "history": "", "bound": "",
    },
    ("desk", "Desk"): {
        "lines": "", "item_names": "", "get_story": "name", "get_world": "name", "put": "text", "drop": "name",
        "rename": "name new", "edit": "name number text", "add": "name text", "keep": "promise", "release": "promise",
        "promises": "", "holds": "promise", "broken": "", "undo": "", "redo": "", "attempt": "action",
        "trial": "action",
    },
}

# Classes with nothing but what stands in their parentheses.
PLAIN = ("Loosened", "Rowed", "Least", "Step", "Paper")

BODY = ring(3, 3)
OTHER = row(8, (4, 4))
PLAN = plan_between(BODY, OTHER)[:7]
STEPS = steps_of(BODY, PLAN)
PLACES = placed(BODY, list("hbcdefga"))
GOALS = placed(OTHER, list("bcadefgh"))
TEXT = "body 0 0\n##\ntarget 5 5\n##\ngo 1\n"

# Values for the parameters of all functions; those for some of them alone stand behind their names.
VALUES = {
    "body": BODY, "other": OTHER, "target": OTHER, "cell": (1, 1), "cells": list(BODY), "value": BODY,
    "start": (0, 0), "end": (1, 1), "by": (3, -2), "plan": list(PLAN), "square": (0, 0), "region": 1, "many": 8,
    "wide": 3, "high": 4, "first": (2, 3), "n": 5, "steps": list(STEPS), "step": STEPS[0], "one": STEPS[0],
    "two": STEPS[1], "order": [0, 1, 2, 3, 4, 5, 6], "numbers": [1, 2, 3], "deeds": (("go", 3),),
    "bodies": [BODY, OTHER], "story": Story(TEXT), "text": TEXT, "places": PLACES, "names": list("abcdefgh"),
    "goals": GOALS, "wished": list("bcad"), "pairs": [((0, 0), (3, 4))], "rows": ["ab", "c."], "corner": (4, 5),
    "what": "number", "number": 3, "line": 1, "column": 2, "name": "a", "limit": 5, "promise": "a there",
    "witness": 4, "support": (), "moves": (), "row": (), "ups": (1,), "downs": (2,), "paper": paper_of(BODY, OTHER),
}

OWN_VALUES = {
    "crawl": {"by": 2}, "climb": {"by": -2}, "row_plan": {"other": (9, 1)}, "few_moves": {"body": OTHER},
    "layers": {"body": row(4)}, "least_plan": {"body": row(4), "other": spiral(4)}, "all_shapes": {"n": 4},
    "done": {"start": (0, 0), "end": (-1, 1)}, "cost": {"one": (0, 0), "two": (3, 1)}, "is_placing": {"value": PLACES},
    "Desk": {"text": f"world a\n{TEXT}"},
    "sorting": {"order": list("abcd")}, "order_behind": {"order": list("abcd"), "steps": ["turn", "hold"]},
}

METHOD_VALUES = {
    "World": {
        "move": moves_of(end_of(BODY, PLAN[:3]))[0], "go": [5], "aim": [BODY[::-1]], "plan": [], "is_there": [],
        "history": [], "bound": [],
    },
    "Desk": {
        "lines": [], "item_names": [], "get_story": ["a"], "get_world": ["b"], "put": [f"world c\n{TEXT}"],
        "drop": ["a"], "rename": ["a", "z"], "edit": ["a", 5, "go 2"], "add": ["b", "go 1\ngo 1"], "keep": ["b like a"],
        "release": ["a moved 8"], "promises": [], "holds": ["a there"], "broken": [], "undo": [], "redo": [],
        "attempt": [lambda desk: desk.drop("b")], "trial": [lambda desk: desk.drop("b")],
    },
}

# Methods that return something.
TELLING = "go plan is_there history bound lines item_names get_story get_world promises holds broken".split()


def values_for(name, parameters):
    told = {**VALUES, **OWN_VALUES.get(name, {})}
    return {word: told[word] for word in parameters.split()}


def facts(value):
    """What a value tells, as plain tuples, also of objects of the package."""
    if isinstance(value, (list, tuple)):
        return (type(value).__name__, *[facts(item) for item in value])
    if isinstance(value, dict):
        return ("dict", *[(word, facts(item)) for word, item in value.items()])
    if hasattr(value, "__dict__"):
        return (type(value).__name__, facts(vars(value)))
    return value


def kinds(value):
    """The types of all that a tuple holds."""
    return {type(value)}.union(*[kinds(item) for item in value]) if isinstance(value, (list, tuple)) else {type(value)}


def at_world():
    world = World(BODY, OTHER)
    world.go(3)
    return world


def at_desk():
    desk = Desk(f"world a\n{TEXT}world b\n{TEXT}")
    for promise in ("a moved 9", "a moved 8", "a moved 7"):
        desk.keep(promise)
    desk.undo()
    return desk


class InterfaceTest(Case):
    def functions(self):
        for file, told in INTERFACE.items():
            module = importlib.import_module(f"slideinto.{file}")
            for name, parameters in told.items():
                yield file, name, getattr(module, name), parameters

    def test_all_is_there(self):
        for file, name, thing, parameters in self.functions():
            self.assertEqual(thing.__module__, f"slideinto.{file}")
            self.assertEqual(list(inspect.signature(thing).parameters), parameters.split(), name)

    def test_all_methods_stand_in_their_classes(self):
        for (file, name), methods in METHODS.items():
            thing = getattr(importlib.import_module(f"slideinto.{file}"), name)
            for method, parameters in methods.items():
                told = inspect.signature(vars(thing)[method]).parameters
                self.assertEqual(list(told), ["self", *parameters.split()], method)

    def test_objects_have_just_what_stands_in_the_parentheses(self):
        for file, name, thing, parameters in self.functions():
            if file == "errors" or name in PLAIN:
                values = [object() for _ in parameters.split()]
                self.assertEqual(vars(thing(*values)), dict(zip(parameters.split(), values)))

    def test_by_place_and_by_name(self):
        for file, name, thing, parameters in self.functions():
            values = values_for(name, parameters)
            before = facts(list(values.values()))
            by_place = thing(*values.values())
            by_name = thing(**{word: values[word] for word in reversed(list(values))})
            if file != "errors":
                self.assertEqual(facts(by_name), facts(by_place), name)
            self.assertEqual(facts(list(values.values())), before, name)

    def test_what_is_returned_is_plain(self):
        plain = {tuple, int, str, bool, type(None)}
        for file, name, thing, parameters in self.functions():
            if file != "errors":
                told = thing(*values_for(name, parameters).values())
                if not hasattr(told, "__dict__") and file != "ties":
                    self.assertLessEqual(kinds(told), plain, name)

    def test_methods_by_place_and_by_name(self):
        for (_, name), methods in METHODS.items():
            for method, parameters in methods.items():
                values = {word: METHOD_VALUES[name][method][k] for k, word in enumerate(parameters.split())}
                one, two = (at_world(), at_world()) if name == "World" else (at_desk(), at_desk())
                by_place = getattr(one, method)(*values.values())
                by_name = getattr(two, method)(**{word: values[word] for word in reversed(list(values))})
                self.assertEqual(facts(by_place), facts(by_name), method)
                self.assertEqual(facts(one), facts(two), method)
                if method not in TELLING:
                    self.assertIsNone(by_place)

    def test_errors_by_name_in_another_order(self):
        module = importlib.import_module("slideinto.errors")
        for name, parameters in INTERFACE["errors"].items():
            values = {word: [word] for word in parameters.split()}
            error = getattr(module, name)(**{word: values[word] for word in reversed(list(values))})
            self.assertEqual(vars(error), values)
            self.assertEqual(getattr(module, name).__bases__, (module.SlideError,))
