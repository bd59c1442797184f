"""Points 10 to 12: the plan of scripts, and the carrying out of plans."""

import unittest

from tests.plain import EXAMPLES, cut, dice_of, fewest_registers, plain_needs, plain_weights, some_examples, some_script
from tests.plain_plans import plain_carrying, plain_perform, plain_plan
from trialcopies.errors import BadPlan, TrialError
from trialcopies.needs import rebuild_needs
from trialcopies.plans import perform, rebuild_plan
from trialcopies.training import train_alone

SCRIPTS = ((0, ((1, 0, 6),)), (0, ((1, 0, 3), (3, 0, 2))), (5, ()))


class RebuildPlanTest(unittest.TestCase):
    def test_examples_of_the_document(self):
        self.assertEqual(rebuild_plan(SCRIPTS), (
            ("found", 0, 0), ("train", 0, 1, 0, 3), ("copy", 0, 1), ("train", 1, 1, 0, 3), ("deliver", 1, 0),
            ("free", 1), ("train", 0, 3, 0, 2), ("deliver", 0, 1), ("free", 0), ("found", 0, 5),
            ("deliver", 0, 2), ("free", 0)))

    def test_no_scripts_somewhat_beyond(self):
        self.assertEqual(rebuild_plan(()), ())

    def test_scripts_without_steps(self):
        self.assertEqual(rebuild_plan(((7, ()),)), (("found", 0, 7), ("deliver", 0, 0), ("free", 0)))
        self.assertEqual(rebuild_plan(((7, ()), (1, ()), (7, ()))), (
            ("found", 0, 1), ("deliver", 0, 1), ("free", 0),
            ("found", 0, 7), ("deliver", 0, 0), ("deliver", 0, 2), ("free", 0)))

    def test_scripts_without_steps_stand_ahead_in_their_seed(self):
        self.assertEqual(rebuild_plan(((7, ((1, 0, 2),)), (7, ()), (6, ((1, 0, 1),)))), (
            ("found", 0, 6), ("train", 0, 1, 0, 1), ("deliver", 0, 2), ("free", 0),
            ("found", 0, 7), ("deliver", 0, 1), ("free", 0),
            ("found", 0, 7), ("train", 0, 1, 0, 2), ("deliver", 0, 0), ("free", 0)))

    def test_the_same_script_more_than_once(self):
        scripts = ((3, ((1, 0, 1), (1, 0, 1), (2, 0, 4))), (3, ((1, 0, 2),)), (3, ((1, 0, 2), (2, 0, 4))))
        self.assertEqual(rebuild_plan(scripts), (
            ("found", 0, 3), ("train", 0, 1, 0, 2), ("deliver", 0, 1), ("train", 0, 2, 0, 4),
            ("deliver", 0, 0), ("deliver", 0, 2), ("free", 0)))

    def test_a_delivery_parts_trainings_with_the_same_settings(self):
        self.assertEqual(rebuild_plan(((3, ((1, 0, 5),)), (3, ((1, 0, 2),)))), (
            ("found", 0, 3), ("train", 0, 1, 0, 2), ("deliver", 0, 1), ("train", 0, 1, 0, 3),
            ("deliver", 0, 0), ("free", 0)))

    def test_several_seeds_and_first_steps_ascending(self):
        scripts = ((9, ((2, 0, 1),)), (9, ((1, 7, 1),)), (9, ((1, 5, 1),)), (2, ((3, 0, 1),)))
        self.assertEqual(rebuild_plan(scripts), (
            ("found", 0, 2), ("train", 0, 3, 0, 1), ("deliver", 0, 3), ("free", 0),
            ("found", 0, 9), ("train", 0, 1, 5, 1), ("deliver", 0, 2), ("free", 0),
            ("found", 0, 9), ("train", 0, 1, 7, 1), ("deliver", 0, 1), ("free", 0),
            ("found", 0, 9), ("train", 0, 2, 0, 1), ("deliver", 0, 0), ("free", 0)))

    def test_the_last_one_of_the_greatest_level_is_put_aside(self):
        # Behind the first step: rate 1 of level 1, rate 2 of level 2, rate 3 of level 2, rate 4 of level 1.
        scripts = tuple((0, ((9, 0, 1),) + rest) for rest in (
            ((4, 0, 1),), ((3, 0, 1), (2, 0, 1)), ((3, 0, 1), (1, 0, 1)),
            ((2, 0, 1), (2, 0, 1)), ((2, 0, 1), (1, 0, 1)), ((1, 0, 1),)))
        self.assertEqual(rebuild_plan(scripts), (
            ("found", 0, 0), ("train", 0, 9, 0, 1),
            ("copy", 0, 1), ("train", 1, 1, 0, 1), ("deliver", 1, 5), ("free", 1),
            ("copy", 0, 1), ("train", 1, 2, 0, 1),
            ("copy", 1, 2), ("train", 2, 1, 0, 1), ("deliver", 2, 4), ("free", 2),
            ("train", 1, 2, 0, 1), ("deliver", 1, 3), ("free", 1),
            ("copy", 0, 1), ("train", 1, 4, 0, 1), ("deliver", 1, 0), ("free", 1),
            ("train", 0, 3, 0, 1),
            ("copy", 0, 1), ("train", 1, 1, 0, 1), ("deliver", 1, 2), ("free", 1),
            ("train", 0, 2, 0, 1), ("deliver", 0, 1), ("free", 0)))

    def test_a_training_does_not_go_on_over_a_fork(self):
        self.assertEqual(rebuild_plan(((0, ((2, 0, 4),)), (0, ((2, 0, 1), (1, 0, 1))))), (
            ("found", 0, 0), ("train", 0, 2, 0, 1), ("copy", 0, 1), ("train", 1, 1, 0, 1), ("deliver", 1, 1),
            ("free", 1), ("train", 0, 2, 0, 3), ("deliver", 0, 0), ("free", 0)))

    def test_long_scripts(self):
        self.assertEqual(rebuild_plan(((0, ((1, 0, 20),) * 500),)), (
            ("found", 0, 0), ("train", 0, 1, 0, 10000), ("deliver", 0, 0), ("free", 0)))
        scripts = tuple((0, tuple((1 + k % 2, 0, 20) for k in range(480 + n)) + ((3, 0, 20),) * (20 - n))
                        for n in range(20))
        told = rebuild_plan(scripts)
        needs = rebuild_needs(scripts)
        self.assertEqual(sum(row[4] for row in told if row[0] == "train"), needs[0])
        self.assertEqual(max(row[1] for row in told), needs[1] - 1)

    def test_against_the_plain_plan(self):
        dice = dice_of(20)
        for many in list(range(1, 21)) * 20:
            scripts = tuple(some_script(dice, stretches=dice.randint(1, 7)) for _ in range(many))
            told = plain_plan(scripts)
            self.assertEqual(rebuild_plan(scripts), told)
            self.assertEqual(rebuild_plan(tuple(cut(script, dice) for script in scripts)), told)
            self.assertIsInstance(rebuild_plan(scripts), tuple)

    def test_nothing_is_modified(self):
        scripts = ((0, ((1, 0, 2), (1, 0, 3))), (0, ((1, 0, 4), (2, 0, 1))))
        rebuild_plan(scripts)
        self.assertEqual(scripts, ((0, ((1, 0, 2), (1, 0, 3))), (0, ((1, 0, 4), (2, 0, 1)))))


class PerformTest(unittest.TestCase):
    def test_examples_of_the_document(self):
        self.assertEqual(perform(EXAMPLES, rebuild_plan(SCRIPTS)),
                         (((0, (4, -3)), (1, (8, -1)), (2, (0, 0))), 8, 2))

    def test_plans_without_deliveries(self):
        self.assertEqual(perform(EXAMPLES, ()), ((), 0, 0))
        self.assertEqual(perform(EXAMPLES, (("found", 99, 1000000),)), ((), 0, 1))
        self.assertEqual(perform(EXAMPLES, (("found", 3, 1), ("train", 3, 1, 0, 7), ("free", 3))), ((), 7, 1))

    def test_what_is_delivered_is_in_order(self):
        plan = (("found", 5, 0), ("deliver", 5, 99), ("train", 5, 1, 0, 3), ("deliver", 5, 0), ("deliver", 5, 99))
        weights = plain_weights(EXAMPLES, (0, ((1, 0, 3),)))
        self.assertEqual(perform(EXAMPLES, plan), (((99, (0, 0)), (0, weights), (99, weights)), 3, 1))

    def test_a_copy_goes_its_own_way(self):
        plan = (("found", 0, 0), ("train", 0, 1, 0, 3), ("copy", 0, 7), ("train", 7, 3, 0, 2), ("deliver", 0, 0),
                ("deliver", 7, 1), ("train", 0, 1, 0, 3), ("deliver", 7, 1), ("deliver", 0, 2))
        rows = [plain_weights(EXAMPLES, (0, stretches)) for stretches in (
            ((1, 0, 3),), ((1, 0, 3), (3, 0, 2)), ((1, 0, 6),))]
        self.assertEqual(perform(EXAMPLES, plan), (
            ((0, rows[0]), (1, rows[1]), (1, rows[1]), (2, rows[2])), 8, 2))

    def test_the_most_registers_at_the_same_time(self):
        plan = (("found", 0, 0), ("found", 1, 0), ("free", 0), ("copy", 1, 0), ("found", 2, 0), ("free", 1),
                ("free", 2), ("found", 50, 0), ("free", 50), ("free", 0), ("found", 0, 0))
        self.assertEqual(perform(EXAMPLES, plan), ((), 0, 3))
        self.assertEqual(perform(EXAMPLES, tuple(("found", k, k) for k in range(100))), ((), 0, 100))

    def refused(self, plan, number, reason):
        with self.assertRaises(BadPlan) as caught:
            perform(EXAMPLES, plan)
        self.assertIsInstance(caught.exception, TrialError)
        self.assertEqual((caught.exception.number, caught.exception.reason), (number, reason))

    def test_register_is_empty(self):
        for row in (("train", 0, 1, 0, 1), ("deliver", 0, 0), ("free", 0), ("copy", 0, 1)):
            self.refused((row,), 0, "register is empty")
            self.refused((("found", 1, 0), ("free", 1), row), 2, "register is empty")
            self.refused((("found", 0, 0), ("free", 0), row), 2, "register is empty")
            self.refused((("found", 1, 0), row, row), 1, "register is empty")

    def test_register_is_taken(self):
        self.refused((("found", 0, 0), ("found", 0, 0)), 1, "register is taken")
        self.refused((("found", 0, 0), ("found", 1, 0), ("found", 0, 7)), 2, "register is taken")
        self.refused((("found", 0, 0), ("found", 1, 0), ("copy", 0, 1)), 2, "register is taken")
        self.refused((("found", 4, 0), ("copy", 4, 4)), 1, "register is taken")
        self.refused((("found", 0, 0), ("copy", 0, 1), ("train", 1, 1, 0, 5), ("found", 1, 7)), 3, "register is taken")

    def test_an_empty_source_comes_ahead_of_a_taken_target(self):
        self.refused((("found", 1, 0), ("copy", 0, 1)), 1, "register is empty")
        self.refused((("copy", 0, 0),), 0, "register is empty")

    def test_too_many_steps(self):
        self.refused((("found", 0, 0), ("train", 0, 1, 0, 10000), ("train", 0, 1, 0, 1)), 2, "too many steps")
        self.refused((("found", 0, 0), ("train", 0, 1, 0, 5000), ("train", 0, 2, 0, 5001)), 2, "too many steps")
        self.refused((("found", 0, 0), ("train", 0, 1, 0, 9000), ("copy", 0, 9), ("train", 9, 1, 0, 1000),
                      ("train", 0, 1, 0, 1001)), 4, "too many steps")
        self.refused((("found", 0, 0), ("train", 1, 1, 0, 10000)), 1, "register is empty")

    def test_just_as_many_steps_as_may_be(self):
        plan = (("found", 0, 0), ("train", 0, 1, 0, 5000), ("copy", 0, 1), ("train", 0, 1, 0, 5000),
                ("train", 1, 2, 0, 4999), ("train", 1, 2, 0, 1))
        self.assertEqual(perform(EXAMPLES, plan), ((), 15000, 2))

    def test_against_the_plain_carrying_out(self):
        dice = dice_of(21)
        seen = set()
        for _ in range(600):
            examples = some_examples(dice, most=4)
            plan = some_plan(dice)
            told = plain_perform(examples, plan)
            seen.add(told[1] if len(told) == 2 else "done")
            if len(told) == 2:
                with self.assertRaises(BadPlan) as caught:
                    perform(examples, plan)
                self.assertEqual((caught.exception.number, caught.exception.reason), told)
            else:
                self.assertEqual(perform(examples, plan), told)
        self.assertEqual(seen, {"done", "register is empty", "register is taken", "too many steps"})

    def test_nothing_is_modified(self):
        plan = rebuild_plan(SCRIPTS)
        first = perform(EXAMPLES, plan)
        self.assertEqual(plan, rebuild_plan(SCRIPTS))
        self.assertEqual(perform(EXAMPLES, plan), first)


def some_instruction(dice):
    """An instruction of three registers."""
    place, other = dice.randrange(3), dice.randrange(3)
    return dice.choice((
        ("found", place, dice.randrange(2)), ("copy", place, other),
        ("train", place, dice.randint(1, 2), dice.choice((0, 50)), dice.choice((1, 2, 3, 5, 8))),
        ("train", place, 1, 0, 5001) if dice.random() < 0.1 else ("deliver", place, dice.randrange(4)),
        ("deliver", place, dice.randrange(4)), ("free", place)))


def some_plan(dice):
    """A plan; most instructions that cannot be carried out are left out of it."""
    plan = ()
    for _ in range(dice.randint(1, 40)):
        longer = plan + (some_instruction(dice),)
        if len(plain_carrying(longer)) == 3 or dice.random() < 0.04:
            plan = longer
    return plan


class TogetherTest(unittest.TestCase):
    """Point 12."""

    def test_each_script_is_delivered_once_with_its_own_weights(self):
        dice = dice_of(22)
        for many in list(range(1, 21)) * 10:
            examples = some_examples(dice)
            scripts = tuple(some_script(dice, stretches=dice.randint(0, 7)) for _ in range(many))
            delivered, steps, most = perform(examples, rebuild_plan(scripts))
            self.assertEqual(sorted(delivered), [(k, train_alone(examples, s)) for k, s in enumerate(scripts)])
            self.assertEqual((steps, most), rebuild_needs(scripts))
            self.assertEqual((steps, most), plain_needs(scripts))

    def test_twenty_scripts_of_10000_steps(self):
        scripts = tuple((0, ((1, 0, 9900), (2, k, 100))) for k in range(20))
        delivered, steps, most = perform(EXAMPLES, rebuild_plan(scripts))
        self.assertEqual(dict(delivered)[19], train_alone(EXAMPLES, scripts[19]))
        self.assertEqual((len(delivered), steps, most), (20, 11900, 2))

    def test_no_plan_that_makes_no_more_steps_holds_fewer(self):
        dice = dice_of(23)
        seen = set()
        for _ in range(120):
            scripts = tuple(some_script(dice, seeds=1, settings=1, stretches=4, steps=1)
                            for _ in range(dice.randint(1, 5)))
            if plain_needs(scripts)[0] <= 8:
                most = perform(EXAMPLES, rebuild_plan(scripts))[2]
                seen.add(most)
                self.assertEqual(most, fewest_registers(scripts))
        self.assertLessEqual({1, 2}, seen)
