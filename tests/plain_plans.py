"""Plans and papers by the words of points 10 to 14, step by step, that the tests compare the program with."""

from tests.plain import plain_weights, settings_of


def nodes_of(scripts):
    """All beginnings that are not empty: pairs (seed, settings of each step)."""
    return {(s[0], tuple(settings_of(s)[:k])) for s in scripts for k in range(1, len(settings_of(s)) + 1)}


def _longer(nodes, node):
    """The beginnings that are one step longer, ascending."""
    return sorted(n for n in nodes if n[0] == node[0] and n[1][:-1] == node[1])


def _level(nodes, node):
    """The level of a beginning, by the words of point 9."""
    levels = [_level(nodes, n) for n in _longer(nodes, node)]
    a = max(levels, default=0)
    if levels:
        levels.remove(a)
    b = max(levels, default=0)
    return max(a, b + 1)


def plain_plan(scripts):
    """The plan of point 11; each beginning by itself, so for small scripts only."""
    nodes = nodes_of(scripts)
    keys = [(s[0], tuple(settings_of(s))) for s in scripts]
    plan = []
    for seed in sorted({s[0] for s in scripts}):
        if (seed, ()) in keys:
            plan.append(("found", 0, seed))
            plan += [("deliver", 0, k) for k in range(len(keys)) if keys[k] == (seed, ())]
            plan.append(("free", 0))
        for node in _longer(nodes, (seed, ())):
            plan.append(("found", 0, seed))
            _make(plan, nodes, keys, node, 0, 1)
    return tuple(_joined(plan))


def _make(plan, nodes, keys, node, r, h):
    """A beginning is made in register r, with h as the next one."""
    plan.append(("train", r) + node[1][-1] + (1,))
    plan += [("deliver", r, k) for k in range(len(keys)) if keys[k] == node]
    rows = _longer(nodes, node)
    if not rows:
        plan.append(("free", r))
        return
    levels = [_level(nodes, n) for n in rows]
    aside = [n for n, level in zip(rows, levels) if level == max(levels)][-1]
    for other in rows:
        if other != aside:
            plan.append(("copy", r, h))
            _make(plan, nodes, keys, other, h, h + 1)
    _make(plan, nodes, keys, aside, r, h)


def _joined(plan):
    """Neighbouring trainings of the same register with the same settings are one."""
    rows = []
    for row in plan:
        if rows and row[0] == "train" and rows[-1][:4] == row[:4]:
            rows[-1] = row[:4] + (rows[-1][4] + row[4],)
        else:
            rows.append(row)
    return rows


def plain_carrying(plan, limit=10000):
    """(delivered (index, seed, settings), steps, most) of a plan, or (number, reason)."""
    rows, delivered, total, most = [None] * 100, [], 0, 0
    for number, (name, *args) in enumerate(plan):
        at = args[0]
        if name != "found" and rows[at] is None:
            return number, "register is empty"
        target = {"found": at, "copy": args[-1]}.get(name)
        if target is not None and rows[target] is not None:
            return number, "register is taken"
        if name == "train" and len(rows[at][1]) + args[3] > limit:
            return number, "too many steps"
        if name == "found":
            rows[at] = (args[1], ())
        if name == "copy":
            rows[target] = rows[at]
        if name == "train":
            rows[at] = (rows[at][0], rows[at][1] + ((args[1], args[2]),) * args[3])
            total += args[3]
        if name == "deliver":
            delivered.append((args[1],) + rows[at])
        if name == "free":
            rows[at] = None
        most = max(most, 100 - rows.count(None))
    return tuple(delivered), total, most


def plain_perform(examples, plan):
    """What point 10 says is told of a plan, or (number, reason)."""
    told = plain_carrying(plan)
    if len(told) == 2:
        return told
    delivered, total, most = told
    return tuple((index, plain_weights(examples, (seed, tuple(pair + (1,) for pair in settings))))
                 for index, seed, settings in delivered), total, most


def plain_shows_enough(scripts, registers, plan):
    """Whether a plan of right instructions is taken, by the words of point 13."""
    told = plain_carrying(plan, limit=10 ** 9)
    if len(told) == 2:
        return False
    delivered, total, most = told
    wanted = sorted((k, s[0], tuple(settings_of(s))) for k, s in enumerate(scripts))
    return sorted(delivered) == wanted and total == len(nodes_of(scripts)) and most <= registers


def plain_shown(scripts, tree):
    """The level that a tree of right kinds of values shows, None if it is none (point 14)."""
    told = _shown(scripts, tree)
    return None if told is None else told[0]


def _shown(scripts, tree):
    if tree[0] == "leaf":
        rows = [settings_of(s) for s in scripts]
        return (1, [tree[1]]) if 0 <= tree[1] < len(rows) and rows[tree[1]] else None
    _, position, left, right = tree
    one, other = _shown(scripts, left), _shown(scripts, right)
    if one is None or other is None or position < 1:
        return None
    sides = [[(scripts[k][0], settings_of(scripts[k])) for k in side[1]] for side in (one, other)]
    both = sides[0] + sides[1]
    if any(len(settings) <= position for _, settings in both):
        return None
    if any((seed, settings[:position]) != (both[0][0], both[0][1][:position]) for seed, settings in both):
        return None
    nexts = [{settings[position] for _, settings in side} for side in sides]
    if len(nexts[0]) != 1 or len(nexts[1]) != 1 or nexts[0] == nexts[1]:
        return None
    return max(one[0], other[0], min(one[0], other[0]) + 1), one[1] + other[1]


def greatest_shown(scripts):
    """The greatest level that any tree shows, by a search through all trees."""
    rows = [(s[0], settings_of(s)) for s in scripts]

    def best(indices, position):
        """The greatest level of a tree over some of these, all alike up to this position."""
        if not indices:
            return 0
        groups = {}
        for k in indices:
            if len(rows[k][1]) > position:
                groups.setdefault(rows[k][1][position], []).append(k)
        sides = [best(group, position + 1) for group in groups.values()]
        pairs = [max(a, b, min(a, b) + 1) for i, a in enumerate(sides) for b in sides[:i]]
        return max([1] + sides + pairs)

    firsts = {}
    for k, (seed, settings) in enumerate(rows):
        if settings:
            firsts.setdefault((seed, settings[0]), []).append(k)
    return max((best(group, 1) for group in firsts.values()), default=0)
