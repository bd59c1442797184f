"""How many steps and registers it takes to build scripts anew."""

from trialcopies.scripts import common_steps, settings_at


def rebuild_needs(scripts):
    """Return (steps, registers): how many steps have to be made, in how many registers."""
    total = 0
    registers = 1
    for branch in branches(scripts, 0):
        steps, level = branch_needs(branch, 0)
        total += steps
        registers = max(registers, level)
    return total, registers


def branches(scripts, position):
    """Return the lists of those scripts that make the same step at the position, ascending.

    The scripts of one seed have all steps before this position in common.
    """
    groups = {}
    for script in scripts:
        settings = settings_at(script, position)
        if settings is not None:
            groups.setdefault((script[0], settings), []).append(script)
    return [groups[key] for key in sorted(groups)]


def branch_needs(branch, start):
    """Return the steps behind start that the scripts of a branch need, and the level of the first.

    All steps up to the next fork or end have one level, so only forks and ends are visited.
    """
    end = min([common_steps(branch[0], script) for script in branch])
    total = end - start
    levels = []
    for longer in branches(branch, end):
        steps, level = branch_needs(longer, end)
        total += steps
        levels.append(level)
    return total, fork_level(levels)


def fork_level(levels):
    """Return the level of a beginning, from the levels of those that are one step longer."""
    second, first = sorted([0, 0, *levels])[-2:]
    return max(first, second + 1)
