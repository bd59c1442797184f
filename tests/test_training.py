"""Points 7 and 8: orders of epochs, training, scores."""

import unittest

from tests.plain import EXAMPLES, cut, dice_of, plain_order, plain_weights, some_examples, some_script
from trialcopies.scripts import beginning, position_of
from trialcopies.training import epoch_order, score_of, train_alone


class EpochOrderTest(unittest.TestCase):
    def test_examples_of_the_document(self):
        self.assertEqual(epoch_order(0, 0, 3), (2, 0, 1))

    def test_by_hand(self):
        # x is 1, then 48271: its remainder by 2 is 1, so that nothing is moved.
        self.assertEqual(epoch_order(0, 0, 2), (0, 1))
        # x is 2, then 96542: its remainder by 2 is 0.
        self.assertEqual(epoch_order(0, 1, 2), (1, 0))
        # x is 1010, then 48753710, whose remainder by 3 is 2, and 1895741945, whose one by 2 is 1.
        self.assertEqual(epoch_order(1, 0, 3), (0, 1, 2))
        # x is 2020, then numbers whose remainders by 4, 3 and 2 are 0.
        self.assertEqual(epoch_order(2, 1, 4), (1, 2, 3, 0))

    def test_each_size(self):
        for size in range(1, 51):
            for seed in (0, 1, 2, 999, 999999, 1000000):
                for epoch in (0, 1, 2, 3, 50, 9999, 10000):
                    order = epoch_order(seed, epoch, size)
                    self.assertIsInstance(order, tuple)
                    self.assertEqual(sorted(order), list(range(size)))
                    self.assertEqual(order, plain_order(seed, epoch, size))

    def test_it_depends_on_seed_and_epoch(self):
        orders = {epoch_order(seed, epoch, 50) for seed in range(5) for epoch in range(5)}
        self.assertEqual(len(orders), 25)

    def test_the_seed_counts_1009_epochs(self):
        self.assertEqual(epoch_order(3, 1009, 20), epoch_order(4, 0, 20))


class TrainAloneTest(unittest.TestCase):
    def test_examples_of_the_document(self):
        self.assertEqual(train_alone(EXAMPLES, (0, ((1, 0, 3), (3, 0, 2)))), (8, -1))

    def test_without_steps(self):
        self.assertEqual(train_alone(EXAMPLES, (5, ())), (0, 0))
        self.assertEqual(train_alone((((1,) * 8, 1),), (5, ())), (0,) * 8)
        self.assertEqual(train_alone((((1,), 1),), (5, ())), (0,))

    def test_just_the_margin(self):
        # After one step the label times s is 25: at most a margin of 25, above one of 24.
        for label in (1, -1):
            examples = (((3, 4), label),)
            first = (3 * label, 4 * label)
            self.assertEqual(train_alone(examples, (0, ((1, 24, 1),))), first)
            self.assertEqual(train_alone(examples, (0, ((1, 24, 9),))), first)
            self.assertEqual(train_alone(examples, (0, ((1, 25, 2),))), (6 * label, 8 * label))
            self.assertEqual(train_alone(examples, (0, ((1, 25, 9),))), (6 * label, 8 * label))
            self.assertEqual(train_alone(examples, (0, ((1, 26, 2),))), (6 * label, 8 * label))

    def test_margin_of_zero(self):
        self.assertEqual(train_alone((((2,), 1),), (0, ((7, 0, 5),))), (14,))
        self.assertEqual(train_alone((((0, 0), -1),), (0, ((7, 0, 5),))), (0, 0))

    def test_greatest_rate_and_margin(self):
        self.assertEqual(train_alone((((1,), 1),), (0, ((100, 1000000, 10000),))), (1000000,))
        self.assertEqual(train_alone((((1,), 1),), (0, ((100, 999999, 10000),))), (1000000,))
        self.assertEqual(train_alone((((100,), -1),), (0, ((100, 1000000, 9999),))), (-10000 * 2,))

    def test_stretch_that_ends_within_an_epoch(self):
        dice = dice_of(5)
        examples = tuple(((dice.randint(-9, 9), dice.randint(-9, 9)), dice.choice((1, -1))) for _ in range(5))
        for first in range(1, 12):
            for second in range(1, 12):
                script = (4, ((1, 0, first), (3, 40, second), (2, 7, 3)))
                self.assertEqual(train_alone(examples, script), plain_weights(examples, script))

    def test_against_the_plain_reckoning(self):
        dice = dice_of(6)
        for _ in range(150):
            examples = some_examples(dice)
            script = (dice.choice((0, 1, 77, 1000000)), tuple(
                (dice.randint(1, 100), dice.choice((0, 10, 1000, 100000, 1000000)), dice.randint(1, 9))
                for _ in range(dice.randint(0, 6))))
            for steps in range(position_of(script) + 1):
                part = beginning(script, steps)
                self.assertEqual(train_alone(examples, part), plain_weights(examples, part))

    def test_the_same_script_in_other_stretches(self):
        dice = dice_of(7)
        for _ in range(100):
            examples, script = some_examples(dice), some_script(dice, steps=9)
            self.assertEqual(train_alone(examples, cut(script, dice)), train_alone(examples, script))

    def test_many_examples_and_steps(self):
        dice = dice_of(8)
        examples = tuple((tuple(dice.randint(-100, 100) for _ in range(8)), dice.choice((1, -1)))
                         for _ in range(50))
        script = (1000000, ((1, 0, 333), (100, 1000000, 800), (7, 12345, 867)))
        self.assertEqual(train_alone(examples, script), plain_weights(examples, script))

    def test_nothing_is_modified(self):
        examples = (((2, 1), 1), ((1, 3), -1))
        script = (0, ((1, 0, 3), (1, 0, 2)))
        train_alone(examples, script)
        self.assertEqual(examples, (((2, 1), 1), ((1, 3), -1)))
        self.assertEqual(script, (0, ((1, 0, 3), (1, 0, 2))))


class ScoreTest(unittest.TestCase):
    def test_examples_of_the_document(self):
        self.assertEqual(score_of(EXAMPLES, (8, -1)), 2)
        self.assertEqual(score_of(EXAMPLES, (0, 0)), 0)

    def test_where_s_is_zero(self):
        self.assertEqual(score_of((((1, 1), 1), ((1, 1), -1)), (3, -3)), 0)
        self.assertEqual(score_of((((1, 1), 1), ((1, 1), -1), ((2, 1), 1)), (3, -3)), 1)

    def test_labels(self):
        self.assertEqual(score_of((((1,), 1), ((-1,), -1), ((1,), -1), ((-1,), 1)), (1,)), 2)
        self.assertEqual(score_of((((5,), -1),) * 50, (-1,)), 50)
        self.assertEqual(score_of((((5,), -1),) * 50, (1,)), 0)

    def test_against_the_plain_reckoning(self):
        dice = dice_of(9)
        for _ in range(200):
            examples = some_examples(dice, most=20)
            weights = tuple(dice.randint(-3, 3) for _ in examples[0][0])
            right = 0
            for features, label in examples:
                s = 0
                for k in range(len(weights)):
                    s += weights[k] * features[k]
                if s * label > 0:
                    right += 1
            self.assertEqual(score_of(examples, weights), right)
