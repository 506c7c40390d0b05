"""The names of the interface, with their arguments and the kinds of what they tell; [0.1] over the whole program."""

import copy
import importlib
import inspect
import unittest

from helper import many_trees
from printwell.best import choose, printed
from printwell.errors import BadBits, BadText, PrintError
from printwell.forms import formatted, plan_of
from printwell.plans import cost_of, count, filled, group, joined, laid
from printwell.reading import read

ARGUMENTS = {
    "plans": {
        "group": ["plan"], "joined": ["plans"], "filled": ["words"], "count": ["plan"], "laid": ["plan", "bits"],
        "cost_of": ["text", "width"],
    },
    "best": {"choose": ["plan", "width"], "printed": ["plan", "width"]},
    "reading": {"read": ["text"]},
    "forms": {"plan_of": ["tree"], "formatted": ["tree", "width"]},
}


class InterfaceTest(unittest.TestCase):
    def test_names_and_arguments(self):
        for name, functions in ARGUMENTS.items():
            module = importlib.import_module("printwell." + name)
            for function, arguments in functions.items():
                taken = inspect.signature(getattr(module, function)).parameters
                self.assertEqual(list(taken), arguments, function)
                self.assertTrue(all(one.default is one.empty for one in taken.values()), function)

    def test_kinds(self):
        plan = filled(["a", "b"])
        self.assertIs(type(plan), tuple)
        self.assertIs(type(count(plan)), int)
        self.assertIs(type(laid(plan, [1])), str)
        self.assertEqual([type(part) for part in cost_of("a", 0)], [int, int])
        told = choose(plan, 0)
        self.assertIs(type(told), tuple)
        self.assertEqual([type(part) for part in told], [int, int, list])
        self.assertEqual([type(side) for side in told[2]], [int])
        self.assertIs(type(printed(plan, 0)), str)
        self.assertIs(type(read("a")), tuple)
        self.assertIs(type(plan_of(("name", "a"))), tuple)
        self.assertIs(type(formatted(("name", "a"), 0)), str)

    def test_errors_are_told_apart(self):
        with self.assertRaises(BadText) as wrong_text:
            read("a b")
        self.assertEqual(type(wrong_text.exception.place), int)
        with self.assertRaises(BadBits) as wrong_sides:
            laid(("text", "a"), [0])
        self.assertNotIsInstance(wrong_text.exception, BadBits)
        self.assertNotIsInstance(wrong_sides.exception, BadText)
        for taken in (wrong_text, wrong_sides):
            self.assertIsInstance(taken.exception, PrintError)


class PlainPlansTest(unittest.TestCase):
    """What plan_of tells is made of the eight kinds of plans alone."""

    def check(self, plan):
        self.assertIs(type(plan), tuple)
        kind = plan[0]
        if kind == "text":
            self.assertEqual([type(part) for part in plan], [str, str])
            return
        plans = {"line": 0, "cut": 0, "nest": 1, "align": 1, "flat": 1, "beside": 2, "choice": 2}[kind]
        self.assertEqual(len(plan), 1 + plans + (kind == "nest"))
        for part in plan[len(plan) - plans:]:
            self.check(part)

    def test_plans_of_trees(self):
        for tree in many_trees(40):
            before = copy.deepcopy(tree)
            self.check(plan_of(tree))
            formatted(tree, 20)
            self.assertEqual(tree, before)

    def test_made_plans(self):
        plans = [("text", "a"), ("line",), group(("cut",))]
        self.check(joined(plans))
        self.check(filled(["a", "b", "c"]))
