"""Plain reckonings, step by step, that the tests compare the program with."""

import random

EXAMPLES = (((2, 1), 1), ((1, 3), -1), ((-1, 2), -1))


def settings_of(script):
    """The list of the settings of each step."""
    return [(rate, margin) for rate, margin, steps in script[1] for _ in range(steps)]


def joined(seed, settings):
    """The normal script of a seed and the settings of each step."""
    stretches = []
    for rate, margin in settings:
        if stretches and stretches[-1][:2] == [rate, margin]:
            stretches[-1][2] += 1
        else:
            stretches.append([rate, margin, 1])
    return seed, tuple(tuple(stretch) for stretch in stretches)


def cut(script, dice):
    """The same script, perhaps with some stretches cut in two."""
    stretches = []
    for rate, margin, steps in script[1]:
        if steps > 1 and dice.random() < 0.5:
            head = dice.randint(1, steps - 1)
            stretches += [(rate, margin, head), (rate, margin, steps - head)]
        else:
            stretches.append((rate, margin, steps))
    return script[0], tuple(stretches)


def some_script(dice, seeds=2, settings=2, stretches=4, steps=3):
    """A small script; often with common steps and with neighbours of the same settings."""
    return (dice.randrange(seeds), tuple(
        (dice.randint(1, settings), dice.randrange(2) * 5, dice.randint(1, steps))
        for _ in range(dice.randint(0, stretches))))


def some_examples(dice, most=7):
    """A few examples."""
    width = dice.randint(1, 8)
    return tuple(
        (tuple(dice.randint(-100, 100) for _ in range(width)), dice.choice((1, -1)))
        for _ in range(dice.randint(1, most)))


def plain_order(seed, epoch, size):
    """The order of an epoch, by the words of point 7."""
    order = [k for k in range(size)]
    x = seed * 1009 + epoch + 1
    i = size - 1
    while i >= 1:
        x = (48271 * x) % 2147483647
        place = x % (i + 1)
        held = order[i]
        order[i] = order[place]
        order[place] = held
        i -= 1
    return tuple(order)


def plain_weights(examples, script):
    """The weights of a script, by the words of points 7 and 8."""
    weights = [0] * len(examples[0][0])
    for p, (rate, margin) in enumerate(settings_of(script)):
        e = p // len(examples)
        index = plain_order(script[0], e, len(examples))[p - e * len(examples)]
        features, label = examples[index]
        s = 0
        for k in range(len(features)):
            s += weights[k] * features[k]
        if label * s <= margin:
            for k in range(len(features)):
                weights[k] += rate * label * features[k]
    return tuple(weights)


def plain_needs(scripts):
    """The needs of scripts, by the words of point 9: each beginning is a number of its own."""
    numbers = {}
    longer = {}
    for script in scripts:
        here = (script[0],)
        for settings in settings_of(script):
            key = (here, settings)
            if key not in numbers:
                numbers[key] = len(numbers)
                longer[numbers[key]] = []
                if isinstance(here, int):
                    longer[here].append(numbers[key])
            here = numbers[key]
    levels = {}
    for number in sorted(longer, reverse=True):
        left = [levels[k] for k in longer[number]]
        a = max(left, default=0)
        if left:
            left.remove(a)
        b = max(left, default=0)
        levels[number] = max(a, b + 1)
    firsts = [levels[number] for (here, _), number in numbers.items() if isinstance(here, tuple)]
    return len(numbers), max(firsts, default=1)


def fewest_registers(scripts):
    """The fewest registers of any plan that makes no step twice, by a search through all of them."""
    nodes = {(s[0], tuple(settings_of(s)[:k])) for s in scripts for k in range(len(settings_of(s)) + 1)}
    goal = frozenset(node for node in nodes if node[1])
    most = 1
    while not _reaches(nodes, goal, most):
        most += 1
    return most


def _reaches(nodes, goal, most):
    """Whether so many registers are enough to make each node of the goal just once."""
    rows = [((), frozenset())]
    seen = set(rows)
    while rows:
        held, made = rows.pop()
        if made == goal:
            return True
        for after in _moves(nodes, held, made, most):
            if after not in seen:
                seen.add(after)
                rows.append(after)
    return False


def _moves(nodes, held, made, most):
    """All (held states, made nodes) that one instruction leads to."""
    for at, node in enumerate(held):
        others = held[:at] + held[at + 1:]
        yield others, made
        if len(held) < most:
            yield tuple(sorted(held + (node,))), made
        for longer in nodes:
            if longer[0] == node[0] and longer[1][:-1] == node[1] and longer[1] and longer not in made:
                yield tuple(sorted(others + (longer,))), made | {longer}
    if len(held) < most:
        for node in nodes:
            if not node[1]:
                yield tuple(sorted(held + (node,))), made


def dice_of(number):
    """A generator that gives the same numbers in each run."""
    return random.Random(number)
