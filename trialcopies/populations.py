"""Populations of trials that copy each other's weights."""

from trialcopies.errors import BadExamples, DeedFault, TrialError
from trialcopies.scripts import GREATEST_MARGIN, GREATEST_RATE, MOST_STEPS, lengthened
from trialcopies.training import check_examples, first_weights, score_of, train_further

MOST_SAVES = 1000


class TrialRun:
    """An object for a "with" statement, behind which a population is as it was at first."""

    def __init__(self, population):
        self.population = population
        self.trials = population.trials
        self.spent = population.spent

    def __enter__(self):
        return self.population

    def __exit__(self, kind, value, trace):
        population = self.population
        population.trials = self.trials
        population.spent = self.spent


class Population:
    """Trials, by their numbers, and the steps that were spent on them.

    A trial is a dict. A change makes a new one, and a new dict of trials, and modifies none: so a
    trial run keeps all that was by keeping the dict that was there.

    A state is (script, position, weights). A home is (state, settings, place): the place is the
    pair (trial, index) of the saved state, or None.
    """

    def __init__(self, training, validation):
        check_examples(training)
        check_examples(validation)
        if len(training[0][0]) != len(validation[0][0]):
            raise BadExamples("training and validation examples have as many features")
        self.training = training
        self.validation = validation
        self.trials = {}
        self.spent = 0

    def __len__(self):
        return len(self.trials)

    def __iter__(self):
        return iter(self.trials)

    def __eq__(self, other):
        return (isinstance(other, Population) and self.training == other.training
                and self.validation == other.validation and self.trials == other.trials
                and self.spent == other.spent)

    def found(self, trial, seed, rate, margin):
        """Found a trial and return 1, its incarnation."""
        if trial in self.trials:
            raise DeedFault("trial exists")
        beginning = ((seed, ()), 0, first_weights(self.training))
        settings = (rate, margin)
        self._put(trial, {
            "incarnation": 1, "settings": settings, "state": beginning, "score": None,
            "saves": {}, "count": 0, "home": (beginning, settings, None), "stopped": False,
        })
        return 1

    def train(self, trial, incarnation, steps):
        """Make so many steps and return the new position."""
        held = self._present(trial, incarnation)
        script, position, weights = held["state"]
        if position + steps > MOST_STEPS:
            raise DeedFault("too many steps")
        # Fewer steps than one are beyond the limits, and are none.
        made = max(0, steps)
        rate, margin = held["settings"]
        weights = train_further(self.training, script[0], position, weights, (rate, margin, made))
        led_to = (lengthened(script, rate, margin, made), position + made, weights)
        self._put(trial, {**held, "state": led_to})
        self.spent += made
        return position + made

    def save(self, trial, incarnation):
        """Save the state and return the index of the saved state, the new home."""
        held = self._present(trial, incarnation)
        index = held["count"]
        if index >= MOST_SAVES:
            raise DeedFault("too many saves")
        self._put(trial, {
            **held, "saves": {**held["saves"], index: held["state"]}, "count": index + 1,
            "home": (held["state"], held["settings"], (trial, index)),
        })
        return index

    def crash(self, trial):
        """Return the state and settings to those of the home, and return the new incarnation."""
        held = self._running(trial)
        incarnation = held["incarnation"] + 1
        state, settings, _ = held["home"]
        self._put(trial, {**held, "incarnation": incarnation, "state": state, "settings": settings})
        return incarnation

    def evaluate(self, trial, incarnation):
        """Return the score of the weights on the validation examples, the trial's new score."""
        held = self._present(trial, incarnation)
        score = score_of(self.validation, held["state"][2])
        self._put(trial, {**held, "score": score})
        return score

    def copy(self, trial, incarnation, donor, index, rate, margin):
        """Go on from a saved state of the donor with these settings, and return its position."""
        held = self._present(trial, incarnation)
        state = self._kept(donor, index)
        settings = (rate, margin)
        self._put(trial, {
            **held, "state": state, "settings": settings, "score": None,
            "home": (state, settings, (donor, index)),
        })
        return state[1]

    def stop(self, trial, incarnation):
        """Stop a trial for good."""
        held = self._present(trial, incarnation)
        self._put(trial, {**held, "stopped": True})

    def drop(self, trial, index):
        """Drop a saved state that no trial needs."""
        held = self._any(trial)
        self._kept(trial, index)
        if (trial, index) in self.needed_saves():
            raise DeedFault("save is needed")
        left = {number: state for number, state in held["saves"].items() if number != index}
        self._put(trial, {**held, "saves": left})

    def do(self, deed):
        """Do a deed and return what its change tells."""
        name, *rest = deed
        if name == "found":
            return self.found(*rest)
        if name == "train":
            return self.train(*rest)
        if name == "save":
            return self.save(*rest)
        if name == "crash":
            return self.crash(*rest)
        if name == "evaluate":
            return self.evaluate(*rest)
        if name == "copy":
            return self.copy(*rest)
        if name == "stop":
            return self.stop(*rest)
        if name == "drop":
            return self.drop(*rest)
        raise TrialError("no such change")

    def outcome(self, deed):
        """Do a deed and return its outcome: (True, what it tells) or (False, the reason)."""
        try:
            return True, self.do(deed)
        except DeedFault as fault:
            return False, fault.reason

    def tried(self):
        """Return a trial run of the population as it is now."""
        return TrialRun(self)

    def foresee(self, deed):
        """Return the outcome that a deed would have, and change nothing."""
        with self.tried():
            return self.outcome(deed)

    def state(self, trial):
        """Return (incarnation, position, rate, margin, weights, score, home, is stopped)."""
        held = self._any(trial)
        _, position, weights = held["state"]
        rate, margin = held["settings"]
        place = held["home"][2]
        return held["incarnation"], position, rate, margin, weights, held["score"], place, held["stopped"]

    def script(self, trial):
        """Return the script of the trial's state."""
        return self._any(trial)["state"][0]

    def saved(self, trial, index):
        """Return (position, weights, script) of a saved state."""
        self._any(trial)
        script, position, weights = self._kept(trial, index)
        return position, weights, script

    def saves(self, trial):
        """Return the indices of the saved states that are there."""
        return tuple(sorted(self._any(trial)["saves"]))

    def needed_saves(self):
        """Return the pairs (trial, index) of saved states that are homes of trials that go on."""
        places = [held["home"][2] for held in self._going()]
        return tuple(sorted({place for place in places if place is not None}))

    def seeds(self):
        """Return the seeds of the scripts of all trials that go on."""
        return tuple(sorted({held["state"][0][0] for held in self._going()}))

    def advise(self, trial, draw):
        """Return (donor, index, rate, margin), what the trial should copy, or None."""
        self._running(trial)
        ranking = self._ranking()
        quarter = len(ranking) // 4
        if trial not in ranking[len(ranking) - quarter:]:
            return None
        donor = ranking[draw % quarter]
        indices = self.saves(donor)
        if not indices:
            return None
        rate, margin = turned(self.trials[donor]["settings"], draw // quarter)
        return donor, indices[-1], rate, margin

    def _put(self, trial, held):
        self.trials = {**self.trials, trial: held}

    def _any(self, trial):
        if trial not in self.trials:
            raise DeedFault("no such trial")
        return self.trials[trial]

    def _running(self, trial):
        held = self._any(trial)
        if held["stopped"]:
            raise DeedFault("trial is stopped")
        return held

    def _present(self, trial, incarnation):
        held = self._running(trial)
        if held["incarnation"] != incarnation:
            raise DeedFault("incarnation is over")
        return held

    def _kept(self, trial, index):
        if trial not in self.trials or index not in self.trials[trial]["saves"]:
            raise DeedFault("no such save")
        return self.trials[trial]["saves"][index]

    def _going(self):
        return [held for held in self.trials.values() if not held["stopped"]]

    def _ranking(self):
        rows = [(-held["score"], trial) for trial, held in self.trials.items()
                if not held["stopped"] and held["score"] is not None]
        return [trial for _, trial in sorted(rows)]


def turned(settings, turn):
    """Return settings turned a little, within their limits."""
    rate, margin = settings
    rate = shifted(rate, turn)
    margin = shifted(margin, turn // 2)
    return max(1, min(GREATEST_RATE, rate)), min(GREATEST_MARGIN, margin)


def shifted(number, turn):
    """Return the number and a fifth of it, rounded up: more for an even turn, less for an odd one."""
    fifth = (number + 4) // 5
    return number + fifth if turn % 2 == 0 else number - fifth
