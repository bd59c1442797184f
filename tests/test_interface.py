"""The interface: names, files, arguments."""

import importlib
import inspect
import unittest

FUNCTIONS = (
    ("training", "check_examples", ("value",)),
    ("training", "epoch_order", ("seed", "epoch", "size")),
    ("training", "train_alone", ("examples", "script")),
    ("training", "score_of", ("examples", "weights")),
    ("scripts", "check_script", ("value",)),
    ("scripts", "normal", ("script",)),
    ("scripts", "position_of", ("script",)),
    ("scripts", "beginning", ("script", "steps")),
    ("scripts", "common_steps", ("first", "second")),
    ("needs", "rebuild_needs", ("scripts",)),
    ("plans", "rebuild_plan", ("scripts",)),
    ("plans", "perform", ("examples", "plan")),
    ("papers", "judge_registers", ("scripts", "registers", "paper")),
    ("papers", "explain_registers", ("scripts", "registers")),
    ("deeds", "outcomes", ("training", "validation", "deeds")),
    ("deeds", "after", ("training", "validation", "deeds")),
    ("deeds", "independent", ("one", "other")),
    ("deeds", "judge_exchanges", ("deeds", "others", "places")),
    ("deeds", "exchanges", ("deeds", "others")),
)
METHODS = (
    ("found", ("trial", "seed", "rate", "margin")),
    ("train", ("trial", "incarnation", "steps")),
    ("save", ("trial", "incarnation")),
    ("crash", ("trial",)),
    ("evaluate", ("trial", "incarnation")),
    ("copy", ("trial", "incarnation", "donor", "index", "rate", "margin")),
    ("stop", ("trial", "incarnation")),
    ("drop", ("trial", "index")),
    ("do", ("deed",)),
    ("outcome", ("deed",)),
    ("state", ("trial",)),
    ("script", ("trial",)),
    ("saved", ("trial", "index")),
    ("saves", ("trial",)),
    ("needed_saves", ()),
    ("seeds", ()),
    ("advise", ("trial", "draw")),
    ("tried", ()),
    ("foresee", ("deed",)),
    ("__len__", ()),
    ("__iter__", ()),
    ("__eq__", ("other",)),
)
ERRORS = (
    ("TrialError", ()),
    ("BadExamples", ()),
    ("BadScript", ()),
    ("BadPlan", ("number", "reason")),
    ("DeedFault", ("reason",)),
)


class InterfaceTest(unittest.TestCase):
    def test_functions(self):
        for module, name, parameters in FUNCTIONS:
            with self.subTest(name):
                function = getattr(importlib.import_module("trialcopies." + module), name)
                self.assertTrue(inspect.isfunction(function))
                self.assertEqual(function.__module__, "trialcopies." + module)
                self.assertEqual(tuple(inspect.signature(function).parameters), parameters)

    def test_population(self):
        kind = importlib.import_module("trialcopies.populations").Population
        self.assertEqual(kind.__module__, "trialcopies.populations")
        self.assertEqual(tuple(inspect.signature(kind).parameters), ("training", "validation"))
        for name, parameters in METHODS:
            with self.subTest(name):
                self.assertIn(name, vars(kind))
                self.assertEqual(tuple(inspect.signature(vars(kind)[name]).parameters), ("self",) + parameters)

    def test_errors(self):
        module = importlib.import_module("trialcopies.errors")
        for name, fields in ERRORS:
            with self.subTest(name):
                kind = getattr(module, name)
                self.assertTrue(inspect.isclass(kind))
                self.assertEqual(kind.__module__, "trialcopies.errors")
                if fields:
                    self.assertEqual(tuple(inspect.signature(kind).parameters), fields)
