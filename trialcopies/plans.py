"""Plans that build scripts anew, and the carrying out of plans."""

from trialcopies.errors import BadPlan
from trialcopies.needs import first_branches
from trialcopies.scripts import MOST_STEPS, position_of, stretches_between
from trialcopies.training import first_weights, train_further


def rebuild_plan(scripts):
    """Return the plan that makes each common step once and holds as few states as can be."""
    plan = []
    firsts = first_branches(scripts)
    for seed in sorted({script[0] for script in scripts}):
        ended = [index for index, script in enumerate(scripts) if script[0] == seed and position_of(script) == 0]
        if ended:
            plan.append(("found", 0, seed))
            plan.extend(deliveries(0, ended))
            plan.append(("free", 0))
        for branch in firsts:
            if branch.path[0] == seed:
                plan.append(("found", 0, seed))
                plan.extend(making(branch, 0, 1))
    return tuple(plan)


def deliveries(place, indices):
    """Return the instructions that deliver these indices from the register at the place."""
    return [("deliver", place, index) for index in indices]


def making(branch, place, spare):
    """Return the instructions that make a branch, and all that goes on from it, at the place.

    The register with the number spare is the first one that may be used beside it.
    """
    plan = [("train", place, *stretch) for stretch in stretches_between(branch.path, branch.start, branch.end)]
    plan.extend(deliveries(place, branch.ended))
    if not branch.longer:
        plan.append(("free", place))
        return plan
    # The greatest pair is the last one of the greatest level.
    _, aside = max([(longer.level, number) for number, longer in enumerate(branch.longer)])
    for number, longer in enumerate(branch.longer):
        if number != aside:
            plan.append(("copy", place, spare))
            plan.extend(making(longer, spare, spare + 1))
    plan.extend(making(branch.longer[aside], place, spare))
    return plan


class Learner:
    """Makes states with weights: (seed, position, weights)."""

    def __init__(self, examples):
        self.examples = examples

    def founded(self, seed):
        """Return the state of the seed without steps."""
        return seed, 0, first_weights(self.examples)

    def trained(self, held, rate, margin, steps):
        """Return the state that so many steps lead to."""
        seed, position, weights = held
        weights = train_further(self.examples, seed, position, weights, (rate, margin, steps))
        return seed, position + steps, weights

    def allows(self, held, steps):
        """Tell whether the state may make so many steps more."""
        return held[1] + steps <= MOST_STEPS


def perform(examples, plan):
    """Carry out a plan and return (delivered, steps, most); raise BadPlan where this is not possible."""
    delivered, steps, most = carry_out(plan, Learner(examples))
    return tuple([(index, held[2]) for index, held in delivered]), steps, most


def carry_out(plan, maker):
    """Return (delivered, steps, most) of a plan whose states the maker makes; raise BadPlan.

    What is delivered is a list of pairs (index, state).
    """
    held = {}
    delivered = []
    total = 0
    most = 0
    for number, instruction in enumerate(plan):
        reason = hindrance(held, maker, instruction)
        if reason is not None:
            raise BadPlan(number, reason)
        name, place, *rest = instruction
        if name == "found":
            held[place] = maker.founded(rest[0])
        elif name == "copy":
            held[rest[0]] = held[place]
        elif name == "train":
            rate, margin, steps = rest
            held[place] = maker.trained(held[place], rate, margin, steps)
            total += steps
        elif name == "deliver":
            delivered.append((rest[0], held[place]))
        elif name == "free":
            del held[place]
        most = max(most, len(held))
    return delivered, total, most


def hindrance(held, maker, instruction):
    """Return why the instruction cannot be carried out, None if it can."""
    name, place, *rest = instruction
    if name == "found":
        return "register is taken" if place in held else None
    if place not in held:
        return "register is empty"
    if name == "copy" and rest[0] in held:
        return "register is taken"
    if name == "train" and not maker.allows(held[place], rest[2]):
        return "too many steps"
    return None
