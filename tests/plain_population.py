"""A population by the words of points 16 to 20, that the tests compare the program with.

It is modified in place, keeps the settings of each step, and trains anew wherever weights are asked for.
"""

import copy

from tests.plain import EXAMPLES, joined, plain_weights
from trialcopies.populations import Population

VALIDATION = (((1, 0), 1), ((0, 1), -1), ((1, 1), 1), ((2, -3), -1), ((-1, -1), 1))


class Fault(Exception):
    """A deed that is refused; the reason is its only argument."""


class PlainTrial:
    def __init__(self, seed, settings):
        self.incarnation = 1
        self.settings = settings
        self.steps = (seed, [])
        self.score = None
        self.saved = []
        self.home = (self.steps, settings, None)
        self.stopped = False


class PlainPopulation:
    def __init__(self, training, validation):
        self.examples = (training, validation)
        self.trials = {}
        self.spent = 0

    def weights(self, steps):
        return plain_weights(self.examples[0], joined(*steps))

    def deed(self, deed):
        """The outcome of a deed, that is done."""
        name, number, *args = deed
        try:
            if name == "found":
                return True, self.found(number, *args)
            if number not in self.trials:
                raise Fault("no such trial")
            trial = self.trials[number]
            if name != "drop":
                if trial.stopped:
                    raise Fault("trial is stopped")
                if name != "crash" and trial.incarnation != args.pop(0):
                    raise Fault("incarnation is over")
            return True, getattr(self, name)(number, trial, *args)
        except Fault as fault:
            return False, fault.args[0]

    def found(self, number, seed, rate, margin):
        if number in self.trials:
            raise Fault("trial exists")
        self.trials[number] = PlainTrial(seed, (rate, margin))
        return 1

    def train(self, number, trial, steps):
        if len(trial.steps[1]) + steps > 10000:
            raise Fault("too many steps")
        trial.steps = (trial.steps[0], trial.steps[1] + [trial.settings] * steps)
        self.spent += steps
        return len(trial.steps[1])

    def save(self, number, trial):
        if len(trial.saved) == 1000:
            raise Fault("too many saves")
        trial.saved.append(trial.steps)
        trial.home = (trial.steps, trial.settings, (number, len(trial.saved) - 1))
        return len(trial.saved) - 1

    def crash(self, number, trial):
        trial.incarnation += 1
        trial.steps, trial.settings = trial.home[:2]
        return trial.incarnation

    def evaluate(self, number, trial):
        weights = self.weights(trial.steps)
        trial.score = 0
        for features, label in self.examples[1]:
            if label * sum(weights[k] * features[k] for k in range(len(weights))) > 0:
                trial.score += 1
        return trial.score

    def there(self, number, index):
        if number not in self.trials or index not in self.saves(number):
            raise Fault("no such save")
        return self.trials[number].saved[index]

    def copy(self, number, trial, donor, index, rate, margin):
        trial.steps = self.there(donor, index)
        trial.settings = (rate, margin)
        trial.score = None
        trial.home = (trial.steps, trial.settings, (donor, index))
        return len(trial.steps[1])

    def stop(self, number, trial):
        trial.stopped = True

    def drop(self, number, trial, index):
        self.there(number, index)
        for other in self.trials.values():
            if not other.stopped and other.home[2] == (number, index):
                raise Fault("save is needed")
        trial.saved[index] = None

    def foresee(self, deed):
        return copy.deepcopy(self).deed(deed)

    def saves(self, number):
        saved = self.trials[number].saved
        return tuple(k for k in range(len(saved)) if saved[k] is not None)

    def state(self, number):
        trial = self.trials[number]
        return (trial.incarnation, len(trial.steps[1])) + trial.settings + (
            self.weights(trial.steps), trial.score, trial.home[2], trial.stopped)

    def saved(self, number, index):
        steps = self.trials[number].saved[index]
        return len(steps[1]), self.weights(steps), joined(*steps)

    def needed_saves(self):
        return tuple(sorted({t.home[2] for t in self.trials.values() if not t.stopped and t.home[2]}))

    def seeds(self):
        return tuple(sorted({t.steps[0] for t in self.trials.values() if not t.stopped}))

    def advise(self, number, draw):
        """The advice for a trial that is there and not stopped."""
        ranked = [k for k, t in self.trials.items() if not t.stopped and t.score is not None]
        ranked.sort()
        ranked.sort(key=lambda k: self.trials[k].score, reverse=True)
        q = len(ranked) // 4
        if q == 0 or number not in ranked[-q:]:
            return None
        donor = ranked[draw % q]
        if not self.saves(donor):
            return None
        b = draw // q
        rate, margin = self.trials[donor].settings
        rate += -(-rate // 5) * (1, -1)[b % 2]
        margin += -(-margin // 5) * (1, -1)[b // 2 % 2]
        return donor, self.saves(donor)[-1], min(max(rate, 1), 100), min(margin, 1000000)

    def views(self):
        """All that the interface tells of a population."""
        return {
            "spent": self.spent, "len": len(self.trials), "numbers": list(self.trials),
            "states": [self.state(k) for k in self.trials],
            "scripts": [joined(*t.steps) for t in self.trials.values()],
            "saves": [self.saves(k) for k in self.trials],
            "saved": [self.saved(k, n) for k in self.trials for n in self.saves(k)],
            "needed": self.needed_saves(), "seeds": self.seeds(),
        }


def behind(*deeds, training=EXAMPLES, validation=VALIDATION):
    """The program's population behind deeds, each of which can be done."""
    population = Population(training, validation)
    for deed in deeds:
        population.do(deed)
    return population


def views(population):
    """The same of the program's population."""
    return {
        "spent": population.spent, "len": len(population), "numbers": list(population),
        "states": [population.state(k) for k in population],
        "scripts": [population.script(k) for k in population],
        "saves": [population.saves(k) for k in population],
        "saved": [population.saved(k, n) for k in population for n in population.saves(k)],
        "needed": population.needed_saves(), "seeds": population.seeds(),
    }


def some_deed(dice, trials=4, seeds=3):
    """A deed; often one that can be done after a few others."""
    trial = dice.randrange(trials)
    incarnation = dice.choice((1, 1, 1, 2, 2, 3))
    settings = (dice.choice((1, 2, 7, 100)), dice.choice((0, 0, 3, 500, 1000000)))
    return dice.choice((
        ("found", trial, dice.randrange(seeds)) + settings,
        ("found", trial, dice.randrange(seeds)) + settings,
        ("train", trial, incarnation, dice.randint(1, 6)),
        ("train", trial, incarnation, dice.randint(1, 6)),
        ("train", trial, incarnation, dice.randint(1, 6)),
        ("save", trial, incarnation),
        ("save", trial, incarnation),
        ("crash", trial) if dice.random() < 0.3 else ("save", trial, incarnation),
        ("evaluate", trial, incarnation),
        ("evaluate", trial, incarnation),
        ("copy", trial, incarnation, dice.randrange(trials), dice.randrange(3)) + settings,
        ("copy", trial, incarnation, dice.randrange(trials), dice.randrange(3)) + settings,
        ("copy", trial, incarnation, dice.randrange(trials), dice.randrange(3)) + settings,
        ("drop", trial, dice.randrange(3)),
        ("stop", trial, incarnation) if dice.random() < 0.35 else ("drop", trial, dice.randrange(3)),
    ))
