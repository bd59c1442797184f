"""Point 3: the classes of errors."""

import unittest

from trialcopies import errors


class ErrorsTest(unittest.TestCase):
    def test_all_errors_are_under_trial_error(self):
        self.assertTrue(issubclass(errors.TrialError, ValueError))
        for name in ("BadExamples", "BadScript", "BadPlan", "DeedFault"):
            with self.subTest(name):
                self.assertTrue(issubclass(getattr(errors, name), errors.TrialError))

    def test_no_error_is_under_another_one(self):
        kinds = (errors.BadExamples, errors.BadScript, errors.BadPlan, errors.DeedFault)
        for one in kinds:
            for other in kinds:
                self.assertEqual(issubclass(one, other), one is other)

    def test_bad_plan_has_its_fields(self):
        fault = errors.BadPlan(0, "register is empty")
        self.assertEqual((fault.number, fault.reason), (0, "register is empty"))
        fault = errors.BadPlan(reason="too many steps", number=7)
        self.assertEqual((fault.number, fault.reason), (7, "too many steps"))

    def test_deed_fault_has_its_field(self):
        self.assertEqual(errors.DeedFault("no such trial").reason, "no such trial")
        self.assertEqual(errors.DeedFault(reason="trial is stopped").reason, "trial is stopped")

    def test_fields_belong_to_each_object(self):
        first, second = errors.BadPlan(1, "a"), errors.BadPlan(2, "b")
        self.assertEqual((first.number, first.reason, second.number, second.reason), (1, "a", 2, "b"))
        self.assertIn("reason", vars(first))
        self.assertIn("number", vars(first))
        self.assertIn("reason", vars(errors.DeedFault("a")))

    def test_errors_are_raised_and_caught(self):
        for fault in (errors.TrialError("x"), errors.BadExamples("x"), errors.BadScript("x"),
                      errors.BadPlan(3, "x"), errors.DeedFault("x")):
            with self.assertRaises(ValueError) as caught:
                raise fault
            self.assertIn("x", str(caught.exception))
