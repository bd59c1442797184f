"""The errors of trialcopies."""


class TrialError(ValueError):
    """The base of all errors of trialcopies."""


class BadExamples(TrialError):
    """Something that is no right tuple of examples."""


class BadScript(TrialError):
    """Something that is no right script."""


class BadPlan(TrialError):
    """A plan that cannot be carried out: the number of the instruction, and the reason."""

    def __init__(self, number, reason):
        TrialError.__init__(self, f"instruction {number}: {reason}")
        self.number = number
        self.reason = reason


class DeedFault(TrialError):
    """A deed that a population refuses, and the reason."""

    def __init__(self, reason):
        TrialError.__init__(self, f"{reason}")
        self.reason = reason
