"""Papers that show how many registers are enough to build scripts anew, and their judge."""

from trialcopies.errors import BadPlan
from trialcopies.limits import is_whole
from trialcopies.needs import first_branches, rebuild_needs
from trialcopies.plans import carry_out, rebuild_plan
from trialcopies.scripts import GREATEST_SEED, common_steps, position_of

LAST_PLACE = 99
ARGUMENTS = {"found": 2, "copy": 2, "train": 4, "deliver": 2, "free": 1}


def explain_registers(scripts, registers):
    """Return a paper that shows whether so many registers are enough for the scripts."""
    steps, needed = rebuild_needs(scripts)
    # Without steps there is no leaf, so that no tree could show anything.
    if registers >= needed or steps == 0:
        return "plan", rebuild_plan(scripts)
    highest = [branch for branch in first_branches(scripts) if branch.level == needed]
    return "forks", tree_of(highest[0])


def tree_of(branch):
    """Return a tree that shows the level of a branch."""
    if not branch.longer:
        return "leaf", branch.ended[0]
    rows = sorted([(longer.level, number) for number, longer in enumerate(branch.longer)])
    level, number = rows[-1]
    first = tree_of(branch.longer[number])
    if level == branch.level:
        return first
    # Only two branches of the same level make a greater one.
    return "fork", branch.end, first, tree_of(branch.longer[rows[-2][1]])


def judge_registers(scripts, registers, paper):
    """Tell whether the paper shows that so many registers are enough, or that they are not."""
    if not is_named(paper, 2):
        return False
    kind, content = paper
    if kind == "plan":
        return shows_enough(scripts, registers, content)
    if kind == "forks":
        told = shown(scripts, content, len(scripts))
        return told is not None and told[0] > registers
    return False


def is_named(value, size):
    """Tell whether the value is a tuple of this size that begins with a string."""
    # Exact kinds only: the methods of others might do anything.
    return type(value) is tuple and len(value) == size and type(value[0]) is str


class Tracker:
    """Makes states without weights, so that the same script is always the same state.

    A state is (before, rate, margin, steps): the last stretch, and the number of the state before it.
    """

    def __init__(self):
        self.numbers = {}

    def founded(self, seed):
        """Return the state of the seed without steps."""
        return seed, None, None, 0

    def trained(self, held, rate, margin, steps):
        """Return the state that so many steps lead to."""
        before, last_rate, last_margin, made = held
        if (last_rate, last_margin) == (rate, margin):
            return before, rate, margin, made + steps
        return self.numbers.setdefault(held, len(self.numbers)), rate, margin, steps

    def allows(self, held, steps):
        """Tell whether the state may make so many steps more: on paper there is no limit."""
        return True

    def led_to(self, script):
        """Return the state of a script."""
        held = self.founded(script[0])
        for rate, margin, steps in script[1]:
            held = self.trained(held, rate, margin, steps)
        return held


def shows_enough(scripts, registers, plan):
    """Tell whether the value is a plan that builds the scripts anew in so many registers."""
    if type(plan) is not tuple or not all([is_instruction(row) for row in plan]):
        return False
    tracker = Tracker()
    try:
        delivered, steps, most = carry_out(plan, tracker)
    except BadPlan:
        return False
    if sorted([index for index, _ in delivered]) != list(range(len(scripts))):
        return False
    if not all([held == tracker.led_to(scripts[index]) for index, held in delivered]):
        return False
    return steps == rebuild_needs(scripts)[0] and most <= registers


def is_instruction(value):
    """Tell whether the value is an instruction.

    Settings and steps need no upper limit: a step that no script has is one too many anyway.
    """
    if type(value) is not tuple or not value or type(value[0]) is not str:
        return False
    name, *numbers = value
    if name not in ARGUMENTS or len(numbers) != ARGUMENTS[name]:
        return False
    if not all([type(number) is int for number in numbers]):
        return False
    if not is_whole(numbers[0], 0, LAST_PLACE):
        return False
    if name == "found":
        return is_whole(numbers[1], 0, GREATEST_SEED)
    if name == "copy":
        return is_whole(numbers[1], 0, LAST_PLACE)
    if name == "train":
        return numbers[3] >= 1
    return True


def shown(scripts, tree, forks):
    """Return (level, script, common): what the tree shows, one of its scripts, their common steps.

    Return None if the value is no tree. Each fork parts scripts, so that more forks than there are
    scripts, one behind the other, cannot be right; this limits how deep a value is looked into.
    """
    if is_named(tree, 2) and tree[0] == "leaf":
        return leaf_shown(scripts, tree[1])
    if forks < 1 or not is_named(tree, 4) or tree[0] != "fork":
        return None
    _, position, left, right = tree
    if type(position) is not int or position < 1:
        return None
    one = shown(scripts, left, forks - 1)
    if one is None or one[2] <= position:
        return None
    other = shown(scripts, right, forks - 1)
    if other is None or other[2] <= position or common_steps(one[1], other[1]) != position:
        return None
    return max(one[0], other[0], min(one[0], other[0]) + 1), one[1], position


def leaf_shown(scripts, index):
    """Return what a leaf shows, None if the index is not that of a script with steps."""
    if not is_whole(index, 0, len(scripts) - 1) or position_of(scripts[index]) < 1:
        return None
    return 1, scripts[index], position_of(scripts[index])
