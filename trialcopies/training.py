"""Examples, and training on them in whole numbers."""

from trialcopies.errors import BadExamples
from trialcopies.limits import is_whole

MOST_EXAMPLES = 50
MOST_FEATURES = 8
GREATEST_FEATURE = 100
GENERATOR_FACTOR = 48271
GENERATOR_MODULUS = 2147483647


def check_examples(value):
    """Return None for right examples; raise BadExamples for everything else."""
    if type(value) is not tuple or not 1 <= len(value) <= MOST_EXAMPLES:
        raise BadExamples(f"examples are a tuple of 1 to {MOST_EXAMPLES}")
    for example in value:
        check_example(example)
    for features, _ in value:
        if len(features) != len(value[0][0]):
            raise BadExamples("all examples have as many features")


def check_example(value):
    """Return None for a right example; raise BadExamples for everything else."""
    if type(value) is not tuple or len(value) != 2:
        raise BadExamples("an example is a pair (features, label)")
    features, label = value
    if type(features) is not tuple or not 1 <= len(features) <= MOST_FEATURES:
        raise BadExamples(f"features are a tuple of 1 to {MOST_FEATURES}")
    for feature in features:
        if not is_whole(feature, -GREATEST_FEATURE, GREATEST_FEATURE):
            raise BadExamples(f"a feature is a number from -{GREATEST_FEATURE} to {GREATEST_FEATURE}")
    if not is_whole(label, -1, 1) or label == 0:
        raise BadExamples("a label is 1 or -1")


def epoch_order(seed, epoch, size):
    """Return the tuple of the indices of so many examples, in the order of the epoch."""
    order = list(range(size))
    x = 1 + 1009 * seed + epoch
    for i in range(size - 1, 0, -1):
        x = GENERATOR_FACTOR * x % GENERATOR_MODULUS
        other = x % (i + 1)
        order[i], order[other] = order[other], order[i]
    return tuple(order)


def weighted_sum(weights, features):
    """Return the sum of the products of each weight with the feature at its place."""
    return sum([weight * feature for weight, feature in zip(weights, features)])


def first_weights(examples):
    """Return the weights before the first step."""
    return (0,) * len(examples[0][0])


def step_on(example, weights, rate, margin):
    """Return the weights after one step that meets this example."""
    features, label = example
    if label * weighted_sum(weights, features) > margin:
        return weights
    return tuple([weight + rate * label * feature for weight, feature in zip(weights, features)])


def train_further(examples, seed, position, weights, stretch):
    """Return the weights after a stretch of steps that begins at the position."""
    rate, margin, steps = stretch
    size = len(examples)
    order = epoch_order(seed, position // size, size)
    for step in range(position, position + steps):
        at = step % size
        if at == 0:
            order = epoch_order(seed, step // size, size)
        weights = step_on(examples[order[at]], weights, rate, margin)
    return weights


def train_alone(examples, script):
    """Return the weights that the steps of a script lead to."""
    seed, stretches = script
    weights = first_weights(examples)
    position = 0
    for stretch in stretches:
        weights = train_further(examples, seed, position, weights, stretch)
        position += stretch[2]
    return weights


def score_of(examples, weights):
    """Return the number of examples that the weights put on the side of their label."""
    return len([label for features, label in examples if label * weighted_sum(weights, features) > 0])
