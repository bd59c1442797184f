"""Point 20 and the interface: trial runs, foreseeing, and when populations are equal."""

import unittest

from tests.plain import EXAMPLES, dice_of
from tests.plain_population import VALIDATION, behind, some_deed, views
from trialcopies.errors import DeedFault
from trialcopies.populations import Population

DEEDS = (
    ("found", 3, 7, 2, 5), ("train", 3, 1, 4), ("save", 3, 1), ("train", 3, 1, 2), ("save", 3, 1),
    ("evaluate", 3, 1), ("found", 4, 8, 1, 0), ("train", 4, 1, 3), ("save", 4, 1), ("drop", 3, 0))
MORE = (
    ("found", 5, 1, 1, 1), ("train", 3, 1, 1), ("save", 3, 1), ("crash", 4), ("evaluate", 4, 2),
    ("copy", 4, 2, 3, 1, 9, 9), ("stop", 3, 1), ("drop", 4, 0))


class TrialRunTest(unittest.TestCase):
    def test_the_population_is_as_it_was(self):
        population, twin = behind(*DEEDS), behind(*DEEDS)
        before = views(population)
        with population.tried() as same:
            self.assertIs(same, population)
            for deed in MORE:
                population.do(deed)
            self.assertEqual(views(population), views(behind(*DEEDS, *MORE)))
        self.assertEqual(views(population), before)
        self.assertEqual(population, twin)
        self.assertEqual(list(population), [3, 4])

    def test_each_change_by_itself(self):
        for deed in (("found", 5, 1, 1, 1), ("train", 3, 1, 1), ("save", 3, 1), ("crash", 3), ("evaluate", 4, 1),
                     ("copy", 3, 1, 4, 0, 9, 9), ("stop", 3, 1), ("copy", 3, 1, 3, 1, 9, 9)):
            population, twin = behind(*DEEDS), behind(*DEEDS)
            with population.tried():
                population.do(deed)
                self.assertNotEqual(population, twin)
            self.assertEqual(population, twin)
        population = behind(*DEEDS, ("save", 3, 1))
        with population.tried():
            population.drop(3, 1)
            self.assertEqual(population.saves(3), (2,))
        self.assertEqual((population.saves(3), population), ((1, 2), behind(*DEEDS, ("save", 3, 1))))

    def test_changes_behind_a_trial_run(self):
        population = behind(*DEEDS)
        with population.tried():
            for deed in MORE:
                population.do(deed)
        for deed in MORE:
            population.do(deed)
        self.assertEqual(views(population), views(behind(*DEEDS, *MORE)))
        self.assertEqual(population, behind(*DEEDS, *MORE))

    def test_it_ends_by_an_error(self):
        population, twin = behind(*DEEDS), behind(*DEEDS)
        before = views(population)
        with self.assertRaises(ZeroDivisionError):
            with population.tried():
                population.train(3, 1, 5)
                population.found(9, 9, 9, 9)
                raise ZeroDivisionError
        self.assertEqual((views(population), population), (before, twin))
        with self.assertRaises(DeedFault) as caught:
            with population.tried() as same:
                same.train(3, 1, 5)
                same.train(3, 2, 5)
        self.assertEqual(caught.exception.reason, "incarnation is over")
        self.assertEqual((views(population), population), (before, twin))

    def test_it_ends_by_a_return(self):
        population, twin = behind(*DEEDS), behind(*DEEDS)

        def position():
            with population.tried():
                return population.train(3, 1, 5)

        self.assertEqual((position(), population), (11, twin))

    def test_as_it_was_when_the_trial_run_was_made(self):
        population, twin = behind(*DEEDS), behind(*DEEDS)
        run = population.tried()
        population.train(3, 1, 5)
        population.found(5, 1, 1, 1)
        with run:
            self.assertEqual(population.state(3)[1], 11)
            population.save(3, 1)
        self.assertEqual(population, twin)
        population.train(3, 1, 1)
        with run:
            population.stop(3, 1)
        self.assertEqual((population, views(population)), (twin, views(twin)))

    def test_one_within_the_other(self):
        population, twin = behind(*DEEDS), behind(*DEEDS)
        with population.tried():
            population.train(3, 1, 5)
            half = views(population)
            with population.tried():
                population.train(3, 1, 5)
                population.stop(4, 1)
                self.assertEqual(population.foresee(("train", 3, 1, 1)), (True, 17))
                self.assertEqual(population.spent, 19)
            self.assertEqual(views(population), half)
        self.assertEqual(population, twin)

    def test_a_trial_run_of_an_empty_population(self):
        population = Population(EXAMPLES, VALIDATION)
        with population.tried():
            population.found(1, 1, 1, 1)
            population.train(1, 1, 1)
        self.assertEqual((len(population), list(population), population.spent), (0, [], 0))
        self.assertEqual(population, Population(EXAMPLES, VALIDATION))

    def test_many_saves(self):
        population = behind(("found", 3, 7, 2, 5), *[("save", 3, 1)] * 1000)
        with population.tried():
            for index in range(999):
                population.drop(3, index)
            self.assertEqual(population.saves(3), (999,))
        self.assertEqual(population.saves(3), tuple(range(1000)))


class ForeseeTest(unittest.TestCase):
    def test_outcomes(self):
        population, twin = behind(*DEEDS), behind(*DEEDS)
        for deed, outcome in ((("found", 5, 1, 1, 1), (True, 1)), (("found", 3, 1, 1, 1), (False, "trial exists")),
                              (("train", 3, 1, 4), (True, 10)), (("train", 3, 2, 4), (False, "incarnation is over")),
                              (("save", 3, 1), (True, 2)), (("crash", 4), (True, 2)), (("stop", 4, 1), (True, None)),
                              (("drop", 3, 1), (False, "save is needed")), (("drop", 3, 0), (False, "no such save")),
                              (("copy", 4, 1, 3, 1, 1, 1), (True, 6)), (("crash", 9), (False, "no such trial"))):
            self.assertEqual(population.foresee(deed), outcome)
            self.assertEqual((population, views(population)), (twin, views(twin)))


class EqualTest(unittest.TestCase):
    def same(self, one, other, told):
        for first, second in ((one, other), (other, one)):
            self.assertIs(first == second, told)
            self.assertIs(first != second, not told)

    def test_the_same_deeds(self):
        self.same(Population(EXAMPLES, VALIDATION), Population(EXAMPLES, VALIDATION), True)
        self.same(behind(*DEEDS), behind(*DEEDS), True)
        self.same(behind(*DEEDS, *MORE), behind(*DEEDS, *MORE), True)
        population = behind(*DEEDS)
        self.same(population, population, True)

    def test_examples(self):
        for training, validation in ((VALIDATION, VALIDATION), (EXAMPLES, EXAMPLES), (EXAMPLES[:2], VALIDATION),
                                     (tuple(reversed(EXAMPLES)), VALIDATION), (VALIDATION, EXAMPLES)):
            self.same(Population(EXAMPLES, VALIDATION), Population(training, validation), False)

    def test_the_order_of_the_founding_does_not_count(self):
        one = behind(("found", 3, 7, 2, 5), ("found", 4, 7, 2, 5), ("train", 3, 1, 4))
        other = behind(("found", 4, 7, 2, 5), ("found", 3, 7, 2, 5), ("train", 3, 1, 4))
        self.same(one, other, True)
        self.assertEqual((list(one), list(other)), ([3, 4], [4, 3]))

    def test_how_the_steps_were_made_does_not_count(self):
        self.same(behind(DEEDS[0], ("train", 3, 1, 2), ("train", 3, 1, 2)), behind(DEEDS[0], DEEDS[1]), True)

    def test_each_single_difference(self):
        base = (("found", 3, 7, 2, 5), ("train", 3, 1, 4), ("save", 3, 1), ("save", 3, 1), ("copy", 3, 1, 3, 1, 2, 5))
        rows = (
            base,
            (("found", 4, 7, 2, 5), ("train", 4, 1, 4), ("save", 4, 1), ("save", 4, 1), ("copy", 4, 1, 4, 1, 2, 5)),
            (("found", 3, 8, 2, 5),) + base[1:],
            base + (("found", 4, 7, 2, 5),),
            # Spent steps alone.
            base + (("train", 3, 1, 2), ("copy", 3, 1, 3, 1, 2, 5)),
            # The incarnation alone.
            base + (("crash", 3),),
            # The score alone.
            base + (("evaluate", 3, 1),),
            # The settings: those of the state alone, those of the home, too.
            base[:4] + (("copy", 3, 1, 3, 1, 3, 5),), base[:4] + (("copy", 3, 1, 3, 1, 2, 6),),
            # The home alone: both saved states are the same.
            base[:4] + (("copy", 3, 1, 3, 0, 2, 5),),
            # The states that are there, the number of those that were saved.
            base[:3] + (("copy", 3, 1, 3, 0, 2, 5),), base + (("drop", 3, 0),), base[:4] + (("save", 3, 1),) + base[4:],
            base[:4] + (("save", 3, 1),) + base[4:] + (("drop", 3, 0),),
            base[:4] + (("save", 3, 1),) + base[4:] + (("drop", 3, 2),),
            base + (("stop", 3, 1),), base + (("stop", 3, 1), ("drop", 3, 1)),
            # The state alone is another one, with as many spent steps.
            (("found", 3, 7, 2, 5), ("train", 3, 1, 3), ("save", 3, 1), ("save", 3, 1), ("copy", 3, 1, 3, 1, 2, 5),
             ("train", 3, 1, 1)),
        )
        populations = [behind(*row) for row in rows]
        for k, one in enumerate(populations):
            for n, other in enumerate(populations):
                self.same(one, other, k == n)

    def test_a_home_that_was_dropped(self):
        # All that is told of both is equal, but a crash would have led to different states.
        one = behind(("found", 3, 7, 2, 5), ("train", 3, 1, 1), ("save", 3, 1), ("train", 3, 1, 2), ("stop", 3, 1))
        other = behind(("found", 3, 7, 2, 5), ("train", 3, 1, 2), ("save", 3, 1), ("train", 3, 1, 1), ("stop", 3, 1))
        self.same(one, other, False)
        one.drop(3, 0)
        other.drop(3, 0)
        self.assertEqual(views(one), views(other))
        self.same(one, other, False)

    def test_weights_alone(self):
        # Two scripts with the same weights are two states.
        flat = (((0, 0), 1),)
        self.same(behind(("found", 1, 0, 2, 5), ("train", 1, 1, 1), training=flat),
                  behind(("found", 1, 0, 2, 5), ("train", 1, 1, 2), training=flat), False)

    def test_anything_else(self):
        class Agreeing:
            def __init__(self):
                self.training, self.validation, self.trials, self.spent = EXAMPLES, VALIDATION, {}, 0

        population = Population(EXAMPLES, VALIDATION)
        for other in (None, 0, False, (), [], {}, "", EXAMPLES, Population, object(), Agreeing()):
            self.assertIs(population == other, False)
            self.assertIs(population != other, True)
            self.assertIs(other == population, False)

    def test_some_deeds(self):
        dice = dice_of(43)
        seen = {True: 0, False: 0}
        for _ in range(150):
            one, other = Population(EXAMPLES, VALIDATION), Population(EXAMPLES, VALIDATION)
            for _ in range(25):
                deed = some_deed(dice, trials=2)
                before = views(one)
                done = one.outcome(deed)[0]
                if views(one) != before:
                    self.assertTrue(done)
                    self.same(one, other, False)
                other.outcome(deed)
                self.same(one, other, True)
                seen[done] += 1
        self.assertGreater(min(seen.values()), 100)
