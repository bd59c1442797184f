"""Points 5 and 6: normal scripts, positions, beginnings, common steps."""

import unittest

from tests.plain import cut, dice_of, joined, settings_of, some_script
from trialcopies.scripts import beginning, check_script, common_steps, normal, position_of

SCRIPTS = (
    (0, ()),
    (1000000, ()),
    (7, ((1, 0, 1),)),
    (7, ((1, 0, 2), (1, 0, 3), (2, 0, 1))),
    (7, ((1, 0, 2), (1, 0, 3), (1, 0, 1))),
    (7, ((1, 0, 2), (2, 0, 9))),
    (7, ((1, 0, 2), (1, 1, 2), (1, 0, 2), (1, 0, 2))),
    (8, ((1, 5, 3), (2, 5, 3), (2, 5, 1), (1, 5, 1), (1, 5, 1))),
)


def plain_common(first, second):
    """The common steps, one by one."""
    many = 0
    if first[0] == second[0]:
        for one, other in zip(settings_of(first), settings_of(second)):
            if one != other:
                break
            many += 1
    return many


class NormalTest(unittest.TestCase):
    def test_examples_of_the_document(self):
        self.assertEqual(normal((7, ((1, 0, 2), (1, 0, 3), (2, 0, 1)))), (7, ((1, 0, 5), (2, 0, 1))))

    def test_neighbours_with_the_same_settings(self):
        self.assertEqual(normal((3, ((1, 0, 1),) * 500)), (3, ((1, 0, 500),)))
        self.assertEqual(normal((3, ((1, 0, 20),) * 500)), (3, ((1, 0, 10000),)))
        self.assertEqual(normal((3, ((1, 0, 1), (2, 0, 1), (1, 0, 1)))), (3, ((1, 0, 1), (2, 0, 1), (1, 0, 1))))
        self.assertEqual(normal((3, ((1, 0, 1), (1, 1, 1), (1, 1, 4)))), (3, ((1, 0, 1), (1, 1, 5))))
        self.assertEqual(normal((3, ((2, 9, 1), (1, 9, 1)))), (3, ((2, 9, 1), (1, 9, 1))))

    def test_scripts_without_steps(self):
        self.assertEqual(normal((0, ())), (0, ()))
        self.assertEqual(normal((1000000, ())), (1000000, ()))

    def test_against_the_settings_step_by_step(self):
        dice = dice_of(1)
        for script in SCRIPTS + tuple(some_script(dice, stretches=8) for _ in range(300)):
            made = normal(script)
            self.assertEqual(made, joined(script[0], settings_of(script)))
            self.assertEqual(normal(made), made)
            self.assertIsNone(check_script(made))
            self.assertEqual(normal(cut(made, dice)), made)

    def test_nothing_is_modified(self):
        script = (7, ((1, 0, 2), (1, 0, 3)))
        normal(script)
        self.assertEqual(script, (7, ((1, 0, 2), (1, 0, 3))))


class PositionTest(unittest.TestCase):
    def test_position(self):
        self.assertEqual(position_of((7, ())), 0)
        self.assertEqual(position_of((7, ((100, 1000000, 1),))), 1)
        self.assertEqual(position_of((7, ((1, 0, 2), (1, 0, 3), (2, 0, 1)))), 6)
        self.assertEqual(position_of((7, ((1, 0, 10000),))), 10000)
        self.assertEqual(position_of((7, ((1, 0, 20),) * 500)), 10000)

    def test_against_the_settings_step_by_step(self):
        dice = dice_of(2)
        for script in SCRIPTS + tuple(some_script(dice) for _ in range(200)):
            self.assertEqual(position_of(script), len(settings_of(script)))


class BeginningTest(unittest.TestCase):
    def test_examples_of_the_document(self):
        self.assertEqual(beginning((7, ((1, 0, 2), (2, 0, 9))), 3), (7, ((1, 0, 2), (2, 0, 1))))

    def test_each_number_of_steps(self):
        dice = dice_of(3)
        for script in SCRIPTS + tuple(some_script(dice, stretches=6) for _ in range(200)):
            settings = settings_of(script)
            for steps in range(len(settings) + 1):
                self.assertEqual(beginning(script, steps), joined(script[0], settings[:steps]))

    def test_none_and_all(self):
        script = (9, ((1, 0, 2), (1, 0, 3), (2, 0, 1)))
        self.assertEqual(beginning(script, 0), (9, ()))
        self.assertEqual(beginning(script, 6), (9, ((1, 0, 5), (2, 0, 1))))
        self.assertEqual(beginning((9, ()), 0), (9, ()))
        self.assertEqual(beginning((9, ((1, 0, 20),) * 500), 9999), (9, ((1, 0, 9999),)))

    def test_no_error_for_numbers_somewhat_beyond(self):
        script = (9, ((1, 0, 2), (2, 0, 1)))
        beginning(script, 4)
        beginning(script, -1)

    def test_nothing_is_modified(self):
        script = (7, ((1, 0, 2), (1, 0, 3)))
        beginning(script, 3)
        self.assertEqual(script, (7, ((1, 0, 2), (1, 0, 3))))


class CommonStepsTest(unittest.TestCase):
    def both(self, first, second, steps):
        self.assertEqual(common_steps(first, second), steps)
        self.assertEqual(common_steps(second, first), steps)

    def test_examples_of_the_document(self):
        self.both((7, ((1, 0, 5),)), (7, ((1, 0, 2), (1, 0, 1), (2, 0, 9))), 3)

    def test_different_seeds(self):
        self.both((7, ((1, 0, 5),)), (8, ((1, 0, 5),)), 0)
        self.both((7, ()), (8, ()), 0)
        self.both((0, ((1, 0, 5),)), (1000000, ((1, 0, 5),)), 0)

    def test_scripts_without_steps(self):
        self.both((7, ()), (7, ()), 0)
        self.both((7, ()), (7, ((1, 0, 5),)), 0)

    def test_the_same_script_in_other_stretches(self):
        self.both((7, ((1, 0, 5),)), (7, ((1, 0, 5),)), 5)
        self.both((7, ((1, 0, 1),) * 5), (7, ((1, 0, 2), (1, 0, 3))), 5)
        self.both((7, ((1, 0, 20),) * 500), (7, ((1, 0, 10000),)), 10000)
        self.both((7, ((1, 0, 20),) * 500), (7, ((1, 0, 9999), (2, 0, 1))), 9999)

    def test_one_is_a_beginning_of_the_other(self):
        self.both((7, ((1, 0, 5), (2, 0, 2))), (7, ((1, 0, 5), (2, 0, 1))), 6)
        self.both((7, ((1, 0, 5), (2, 0, 2))), (7, ((1, 0, 5),)), 5)

    def test_they_do_not_meet_again(self):
        self.both((7, ((1, 0, 2), (2, 0, 1), (3, 0, 4))), (7, ((1, 0, 2), (1, 0, 1), (3, 0, 4))), 2)
        self.both((7, ((1, 0, 2), (3, 0, 4))), (7, ((1, 0, 3), (3, 0, 4))), 2)
        self.both((7, ((1, 0, 2), (3, 0, 4))), (7, ((1, 1, 2), (3, 0, 4))), 0)
        self.both((7, ((2, 1, 2),)), (7, ((1, 1, 2),)), 0)

    def test_against_the_settings_step_by_step(self):
        dice = dice_of(4)
        scripts = SCRIPTS + tuple(some_script(dice, stretches=5) for _ in range(60))
        for first in scripts:
            for second in scripts:
                self.assertEqual(common_steps(first, second), plain_common(first, second))

    def test_nothing_is_modified(self):
        first, second = (7, ((1, 0, 2), (1, 0, 3))), (7, ((1, 0, 4),))
        common_steps(first, second)
        self.assertEqual((first, second), ((7, ((1, 0, 2), (1, 0, 3))), (7, ((1, 0, 4),))))
