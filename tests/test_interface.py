"""The interface of what has landed: names, files, arguments."""

import importlib
import inspect
import unittest

FUNCTIONS = (
    ("training", "check_examples", ("value",)),
    ("training", "epoch_order", ("seed", "epoch", "size")),
    ("training", "train_alone", ("examples", "script")),
    ("training", "score_of", ("examples", "weights")),
    ("scripts", "check_script", ("value",)),
    ("scripts", "normal", ("script",)),
    ("scripts", "position_of", ("script",)),
    ("scripts", "beginning", ("script", "steps")),
    ("scripts", "common_steps", ("first", "second")),
    ("needs", "rebuild_needs", ("scripts",)),
)
ERRORS = (
    ("TrialError", ()),
    ("BadExamples", ()),
    ("BadScript", ()),
    ("BadPlan", ("number", "reason")),
    ("DeedFault", ("reason",)),
)


class InterfaceTest(unittest.TestCase):
    def test_functions(self):
        for module, name, parameters in FUNCTIONS:
            with self.subTest(name):
                function = getattr(importlib.import_module("trialcopies." + module), name)
                self.assertTrue(inspect.isfunction(function))
                self.assertEqual(function.__module__, "trialcopies." + module)
                self.assertEqual(tuple(inspect.signature(function).parameters), parameters)

    def test_errors(self):
        module = importlib.import_module("trialcopies.errors")
        for name, fields in ERRORS:
            with self.subTest(name):
                kind = getattr(module, name)
                self.assertTrue(inspect.isclass(kind))
                self.assertEqual(kind.__module__, "trialcopies.errors")
                if fields:
                    self.assertEqual(tuple(inspect.signature(kind).parameters), fields)
