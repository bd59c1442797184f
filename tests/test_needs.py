"""Point 9, and what point 12 says of its numbers: the needs of scripts."""

import itertools
import unittest

from tests.plain import cut, dice_of, fewest_registers, plain_needs, some_script
from trialcopies.needs import rebuild_needs


def complete(seed, depth, length):
    """All scripts of so many stretches with one of two settings each, as long as this."""
    return tuple((seed, tuple((rate, 0, length) for rate in rates))
                 for rates in itertools.product((1, 2), repeat=depth))


class NeedsTest(unittest.TestCase):
    def needs(self, scripts, told):
        self.assertEqual(rebuild_needs(scripts), told)
        self.assertEqual(plain_needs(scripts), told)
        self.assertEqual(rebuild_needs(tuple(reversed(scripts))), told)

    def test_examples_of_the_document(self):
        self.needs(((0, ((1, 0, 6),)), (0, ((1, 0, 3), (3, 0, 2))), (5, ())), (8, 2))

    def test_one_script(self):
        self.needs(((0, ((1, 0, 1),)),), (1, 1))
        self.needs(((0, ((1, 0, 2), (2, 0, 3), (1, 0, 4))),), (9, 1))
        self.needs(((0, ((1, 0, 10000),)),), (10000, 1))

    def test_scripts_without_steps(self):
        self.needs(((0, ()),), (0, 1))
        self.needs(((0, ()), (0, ()), (5, ()), (1000000, ())), (0, 1))
        self.needs(((0, ()), (0, ((1, 0, 2),)), (5, ())), (2, 1))

    def test_the_same_script_twice(self):
        self.needs(((0, ((1, 0, 6),)), (0, ((1, 0, 6),))), (6, 1))
        self.needs(((0, ((1, 0, 6),)), (0, ((1, 0, 2), (1, 0, 4)))), (6, 1))
        self.needs(((0, ((1, 0, 6), (2, 0, 1))), (0, ((1, 0, 6), (3, 0, 1)))) * 10, (8, 2))

    def test_one_is_a_beginning_of_the_other(self):
        self.needs(((0, ((1, 0, 6),)), (0, ((1, 0, 4),)), (0, ((1, 0, 6), (2, 0, 1)))), (7, 1))

    def test_several_seeds(self):
        self.needs(((0, ((1, 0, 6),)), (1, ((1, 0, 6),)), (1000000, ((1, 0, 6),))), (18, 1))
        self.needs(((0, ((1, 0, 6),)), (1, ((1, 0, 6),)), (1, ((1, 0, 3), (2, 0, 3)))), (15, 2))

    def test_different_first_steps(self):
        self.needs(((0, ((1, 0, 6),)), (0, ((2, 0, 6),)), (0, ((1, 1, 6),))), (18, 1))

    def test_branches_at_one_place(self):
        for many in range(2, 20):
            self.needs(tuple((0, ((1, 0, 3), (2 + k, 0, 2))) for k in range(many)), (3 + 2 * many, 2))
            self.needs(tuple((0, ((1, 0, 3), (2, k, 2))) for k in range(many)), (3 + 2 * many, 2))

    def test_complete_trees(self):
        # The first step is no fork: each of both has a tree of its own.
        self.needs(complete(0, 1, 1), (2, 1))
        self.needs(complete(0, 2, 1), (6, 2))
        self.needs(complete(0, 3, 2), (28, 3))
        self.needs(complete(0, 4, 3), (90, 4))

    def test_a_lesser_branch_does_not_raise_the_level(self):
        deep = tuple((0, ((9, 0, 1), *stretches)) for _, stretches in complete(0, 2, 1))
        self.needs(deep, (7, 3))
        self.needs(deep + ((0, ((9, 0, 1), (3, 0, 5))),), (12, 3))
        self.needs(deep + ((0, ((9, 0, 1), (3, 0, 5))), (0, ((9, 0, 1), (4, 0, 5)))), (17, 3))
        self.needs(deep + tuple((0, ((9, 0, 1), (3, 0, 1), (k, 0, 1))) for k in (1, 2)), (10, 3))

    def test_caterpillar(self):
        self.needs(tuple((0, ((1, 0, k), (2, 0, 1))) for k in range(1, 21)), (40, 2))

    def test_twenty_scripts_of_10000_steps(self):
        self.needs(tuple((0, ((1, 0, 5000 + k), (2, 0, 5000 - k))) for k in range(20)),
                   (5019 + sum(5000 - k for k in range(20)), 2))
        self.needs(tuple((0, ((1, 0, 9999), (k, 0, 1))) for k in range(2, 22)), (10019, 2))
        self.needs(tuple((k, ((1, 0, 10000),)) for k in range(20)), (200000, 1))
        self.needs(((0, ((1, 0, 10000),)),) * 20, (10000, 1))

    def test_twenty_scripts_of_500_stretches(self):
        rows = [(1 + k % 2, 0, 20) for k in range(500)]
        scripts = tuple((0, tuple(rows[:480 + k] + [(3, 0, 20)] * (20 - k))) for k in range(20))
        self.needs(scripts, plain_needs(scripts))

    def test_against_the_plain_count(self):
        dice = dice_of(10)
        for many in list(range(1, 21)) * 15:
            scripts = tuple(some_script(dice, stretches=dice.randint(1, 7)) for _ in range(many))
            told = plain_needs(scripts)
            self.needs(scripts, told)
            shuffled = [cut(script, dice) for script in scripts]
            dice.shuffle(shuffled)
            self.needs(tuple(shuffled), told)

    def test_no_plan_holds_fewer_states(self):
        dice = dice_of(11)
        seen = set()
        for _ in range(250):
            scripts = tuple(some_script(dice, seeds=1, settings=1, stretches=4, steps=1)
                            for _ in range(dice.randint(1, 6)))
            if plain_needs(scripts)[0] <= 9:
                told = rebuild_needs(scripts)
                seen.add(told[1])
                self.assertEqual(told[1], fewest_registers(scripts))
        self.assertEqual(seen, {1, 2, 3})

    def test_no_plan_holds_fewer_states_than_three(self):
        scripts = tuple((0, ((9, 0, 1), *stretches)) for _, stretches in complete(0, 2, 1))
        self.assertEqual(rebuild_needs(scripts)[1], 3)
        self.assertEqual(fewest_registers(scripts), 3)

    def test_nothing_is_modified(self):
        scripts = ((0, ((1, 0, 3), (1, 0, 3))), (0, ((1, 0, 3), (3, 0, 2))))
        rebuild_needs(scripts)
        self.assertEqual(scripts, ((0, ((1, 0, 3), (1, 0, 3))), (0, ((1, 0, 3), (3, 0, 2)))))
