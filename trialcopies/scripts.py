"""Scripts: a seed, and the settings of all steps."""

from trialcopies.errors import BadScript
from trialcopies.limits import is_whole

GREATEST_SEED = 1000000
MOST_STRETCHES = 500
GREATEST_RATE = 100
GREATEST_MARGIN = 1000000
MOST_STEPS = 10000


def check_script(value):
    """Return None for a right script; raise BadScript for everything else."""
    if type(value) is not tuple or len(value) != 2:
        raise BadScript("a script is a pair (seed, stretches)")
    seed, stretches = value
    if not is_whole(seed, 0, GREATEST_SEED):
        raise BadScript(f"a seed is a number from 0 to {GREATEST_SEED}")
    if type(stretches) is not tuple or len(stretches) > MOST_STRETCHES:
        raise BadScript(f"stretches are a tuple of at most {MOST_STRETCHES}")
    for stretch in stretches:
        check_stretch(stretch)
    if position_of(value) > MOST_STEPS:
        raise BadScript(f"a script has at most {MOST_STEPS} steps")


def check_stretch(value):
    """Return None for a right stretch of a script; raise BadScript for everything else."""
    if type(value) is not tuple or len(value) != 3:
        raise BadScript("a stretch is a tuple (rate, margin, steps)")
    rate, margin, steps = value
    if not is_whole(rate, 1, GREATEST_RATE):
        raise BadScript(f"a rate is a number from 1 to {GREATEST_RATE}")
    if not is_whole(margin, 0, GREATEST_MARGIN):
        raise BadScript(f"a margin is a number from 0 to {GREATEST_MARGIN}")
    if not is_whole(steps, 1, MOST_STEPS):
        raise BadScript(f"a stretch has 1 to {MOST_STEPS} steps")


def normal(script):
    """Return the same script with neighbouring stretches of the same settings joined."""
    seed, stretches = script
    joined = []
    for rate, margin, steps in stretches:
        if joined and joined[-1][:2] == (rate, margin):
            joined[-1] = (rate, margin, joined[-1][2] + steps)
        else:
            joined.append((rate, margin, steps))
    return seed, tuple(joined)


def position_of(script):
    """Return the number of the steps of a script."""
    return sum([stretch[2] for stretch in script[1]])


def beginning(script, steps):
    """Return the script of the same seed and the first so many steps, normal."""
    seed, stretches = script
    kept = []
    left = steps
    for rate, margin, many in stretches:
        if left < 1:
            break
        kept.append((rate, margin, min(many, left)))
        left -= many
    return normal((seed, tuple(kept)))


def lengthened(script, rate, margin, steps):
    """Return a normal script with so many steps more, with these settings; normal, too."""
    seed, stretches = script
    if steps < 1:
        return script
    if stretches and stretches[-1][:2] == (rate, margin):
        return seed, (*stretches[:-1], (rate, margin, stretches[-1][2] + steps))
    return seed, (*stretches, (rate, margin, steps))


def stretches_between(script, start, end):
    """Return the stretches of the steps from start up to end, none twice with the same settings."""
    found = []
    position = 0
    for rate, margin, steps in normal(script)[1]:
        many = min(end, position + steps) - max(start, position)
        if many > 0:
            found.append((rate, margin, many))
        position += steps
    return found


def common_steps(first, second):
    """Return the position of the longest common beginning, 0 for different seeds."""
    if first[0] != second[0]:
        return 0
    common = 0
    for one, other in zip(normal(first)[1], normal(second)[1]):
        if one[:2] != other[:2]:
            break
        common += min(one[2], other[2])
        # In a normal script, other settings follow behind the shorter stretch.
        if one[2] != other[2]:
            break
    return common


def settings_at(script, place):
    """Return the settings of the step with the number place, None behind the last step."""
    left = place
    for rate, margin, steps in script[1]:
        if left < steps:
            return rate, margin
        left -= steps
    return None
