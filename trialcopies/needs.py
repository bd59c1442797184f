"""How many steps and registers it takes to build scripts anew."""

from trialcopies.scripts import common_steps, position_of, settings_at


class Branch:
    """Beginnings of the same scripts, one step after another, from one fork or end to the next.

    All of them have one level, so that only forks and ends have to be visited.
    """

    def __init__(self, path, start, end, ended, longer):
        # The path is one of these scripts; the branch is its steps from start up to end.
        self.path = path
        self.start = start
        self.end = end
        # The indices of the scripts that end with this branch, and the branches that go on.
        self.ended = ended
        self.longer = longer
        self.steps = end - start + sum([branch.steps for branch in longer])
        self.level = fork_level([branch.level for branch in longer])


def rebuild_needs(scripts):
    """Return (steps, registers): how many steps have to be made, in how many registers."""
    firsts = first_branches(scripts)
    steps = sum([branch.steps for branch in firsts])
    return steps, max([1, *[branch.level for branch in firsts]])


def first_branches(scripts):
    """Return the branches of all first steps, by ascending seeds and settings."""
    return branches(scripts, list(range(len(scripts))), 0)


def branches(scripts, indices, position):
    """Return the branches behind the position of the scripts with these indices, ascending.

    The scripts of one seed have all steps before this position in common.
    """
    groups = {}
    for index in indices:
        settings = settings_at(scripts[index], position)
        if settings is not None:
            groups.setdefault((scripts[index][0], settings), []).append(index)
    return [grown(scripts, groups[key], position) for key in sorted(groups)]


def grown(scripts, indices, start):
    """Return the branch of the scripts with these indices, whose step at start is the same."""
    path = scripts[indices[0]]
    end = min([common_steps(path, scripts[index]) for index in indices])
    ended = [index for index in indices if position_of(scripts[index]) == end]
    return Branch(path, start, end, ended, branches(scripts, indices, end))


def fork_level(levels):
    """Return the level of a beginning, from the levels of those that are one step longer."""
    second, first = sorted([0, 0, *levels])[-2:]
    return max(first, second + 1)
