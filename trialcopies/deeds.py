"""Rows of deeds, and which of them come to the same."""

from trialcopies.limits import is_whole
from trialcopies.populations import Population


def outcomes(training, validation, deeds):
    """Return the outcomes of the deeds, one after another, in a new population."""
    population = Population(training, validation)
    return tuple([population.outcome(deed) for deed in deeds])


def after(training, validation, deeds):
    """Return the population behind the deeds."""
    population = Population(training, validation)
    for deed in deeds:
        population.outcome(deed)
    return population


def independent(one, other):
    """Tell whether it is the same in which sequence two deeds that follow one another are done."""
    if one[0] == "drop" or other[0] == "drop" or one[1] == other[1]:
        return False
    return not depends(one, other) and not depends(other, one)


def depends(one, other):
    """Tell whether one deed copies a saved state of the trial that the other one founds or saves."""
    return one[0] == "copy" and other[0] in ("found", "save") and one[3] == other[1]


def judge_exchanges(deeds, others, places):
    """Tell whether the value is a tuple of places of exchanges that lead from deeds to others."""
    if type(places) is not tuple:
        return False
    row = list(deeds)
    for place in places:
        if not is_whole(place, 0, len(row) - 2) or not independent(row[place], row[place + 1]):
            return False
        row[place], row[place + 1] = row[place + 1], row[place]
    return row == list(others)


def exchanges(deeds, others):
    """Return as few places of exchanges as lead from deeds to others, None if none do.

    Equal deeds are never independent, so that they keep their sequence, and it is clear where each
    deed has to go. Each exchange puts one pair right, so that none is to spare.
    """
    if sorted(deeds) != sorted(others):
        return None
    row = list(deeds)
    places = []
    for target, deed in enumerate(others):
        start = row.index(deed, target)
        for place in range(start - 1, target - 1, -1):
            if not independent(row[place], deed):
                return None
            places.append(place)
        row.insert(target, row.pop(start))
    return tuple(places)
