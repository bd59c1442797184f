"""Points 16, 17, 19 and the interface: populations, their changes, and what they tell."""

import unittest

from tests.plain import EXAMPLES, dice_of, plain_weights, some_examples
from tests.plain_population import VALIDATION, PlainPopulation, behind, some_deed, views
from trialcopies.errors import BadExamples, DeedFault, TrialError
from trialcopies.populations import Population
from trialcopies.scripts import normal
from trialcopies.training import score_of, train_alone

METHODS = {
    "found": ("trial", "seed", "rate", "margin"),
    "train": ("trial", "incarnation", "steps"),
    "save": ("trial", "incarnation"),
    "crash": ("trial",),
    "evaluate": ("trial", "incarnation"),
    "copy": ("trial", "incarnation", "donor", "index", "rate", "margin"),
    "stop": ("trial", "incarnation"),
    "drop": ("trial", "index"),
}


class Case(unittest.TestCase):
    def refused(self, population, deed, reason):
        """Each way to do this deed is refused with this reason, and nothing changes."""
        before = views(population)
        for call in (lambda: population.do(deed), lambda: getattr(population, deed[0])(*deed[1:]),
                     lambda: getattr(population, deed[0])(**dict(zip(METHODS[deed[0]], deed[1:])))):
            with self.assertRaises(DeedFault) as caught:
                call()
            self.assertIsInstance(caught.exception, TrialError)
            self.assertEqual(caught.exception.reason, reason)
            self.assertEqual(views(population), before)
        self.assertEqual(population.outcome(deed), (False, reason))
        self.assertEqual(population.foresee(deed), (False, reason))
        self.assertEqual(views(population), before)


class NewPopulationTest(unittest.TestCase):
    def test_it_is_empty(self):
        population = Population(EXAMPLES, VALIDATION)
        self.assertEqual((population.spent, len(population), list(population)), (0, 0, []))
        self.assertEqual((population.needed_saves(), population.seeds()), ((), ()))
        self.assertIn("spent", vars(population))

    def test_arguments_by_name(self):
        self.assertEqual(Population(training=EXAMPLES, validation=VALIDATION), Population(EXAMPLES, VALIDATION))

    def test_bad_examples(self):
        wrong = ((), None, list(EXAMPLES), (((2, 1), 0),), (((2, 1), True),), (((2, 1), 1), ((2,), 1)),
                 (((2, 101), 1),), (((2, False), 1),), (((2, 1), 1),) * 51)
        for value in wrong:
            for pair in ((value, EXAMPLES), (EXAMPLES, value), (value, value)):
                with self.assertRaises(BadExamples):
                    Population(*pair)

    def test_as_many_features_in_both(self):
        rows = [(((1,) * k, 1),) for k in range(1, 9)]
        for one in rows:
            for other in rows:
                if one is other:
                    Population(one, other)
                else:
                    with self.assertRaises(BadExamples):
                        Population(one, other)

    def test_there_may_be_different_numbers_of_examples(self):
        Population(EXAMPLES[:1], VALIDATION * 10)
        Population(VALIDATION * 10, EXAMPLES[:1])


class FoundTest(Case):
    def test_found(self):
        population = Population(EXAMPLES, VALIDATION)
        self.assertEqual(population.found(99, 1000000, 100, 1000000), 1)
        self.assertEqual(population.found(0, 0, 1, 0), 1)
        self.assertEqual(population.state(99), (1, 0, 100, 1000000, (0, 0), None, None, False))
        self.assertEqual(population.state(0), (1, 0, 1, 0, (0, 0), None, None, False))
        self.assertEqual((population.script(99), population.script(0)), ((1000000, ()), (0, ())))
        self.assertEqual((population.saves(99), population.saves(0)), ((), ()))
        self.assertEqual((population.spent, len(population), list(population)), (0, 2, [99, 0]))

    def test_trial_exists(self):
        population = behind(("found", 3, 7, 1, 0))
        self.refused(population, ("found", 3, 8, 2, 0), "trial exists")
        self.refused(population, ("found", 3, 7, 1, 0), "trial exists")
        population.stop(3, 1)
        self.refused(population, ("found", 3, 8, 2, 0), "trial exists")


class TrainTest(Case):
    def test_train(self):
        population = behind(("found", 3, 7, 2, 5))
        self.assertEqual(population.train(3, 1, 4), 4)
        self.assertEqual(population.train(3, 1, 1), 5)
        weights = plain_weights(EXAMPLES, (7, ((2, 5, 5),)))
        self.assertEqual(population.state(3), (1, 5, 2, 5, weights, None, None, False))
        self.assertEqual(population.script(3), (7, ((2, 5, 5),)))
        self.assertEqual(population.spent, 5)

    def test_errors(self):
        population = behind(("found", 3, 7, 2, 5), ("found", 4, 7, 2, 5), ("crash", 4), ("stop", 4, 2))
        population.crash(3)
        for steps in (1, 1000, 10001):
            self.refused(population, ("train", 5, 2, steps), "no such trial")
            for incarnation in (1, 2, 3):
                self.refused(population, ("train", 4, incarnation, steps), "trial is stopped")
            for incarnation in (0, 1, 3):
                self.refused(population, ("train", 3, incarnation, steps), "incarnation is over")
        self.refused(population, ("train", 3, 2, 10001), "too many steps")

    def test_too_many_steps(self):
        population = behind(("found", 3, 7, 2, 5), *[("train", 3, 1, 1000)] * 9)
        self.refused(population, ("train", 3, 1, 1001), "too many steps")
        self.assertEqual(population.train(3, 1, 999), 9999)
        self.refused(population, ("train", 3, 1, 2), "too many steps")
        self.assertEqual(population.train(3, 1, 1), 10000)
        self.refused(population, ("train", 3, 1, 1), "too many steps")
        self.assertEqual((population.spent, population.script(3)), (10000, (7, ((2, 5, 10000),))))
        population.crash(3)
        self.assertEqual(population.train(3, 2, 1), 1)
        self.assertEqual(population.spent, 10001)

    def test_numbers_of_steps_somewhat_beyond(self):
        population = behind(("found", 3, 7, 2, 5))
        for steps in (0, -1):
            self.assertEqual(population.train(3, 1, steps), 0)
            self.assertEqual((population.script(3), population.spent), ((7, ()), 0))
        self.assertEqual(population.train(3, 1, 1001), 1001)
        self.assertEqual((population.script(3), population.spent), ((7, ((2, 5, 1001),)), 1001))


class SaveTest(Case):
    def test_save(self):
        population = behind(("found", 3, 7, 2, 5))
        self.assertEqual(population.save(3, 1), 0)
        population.train(3, 1, 4)
        self.assertEqual(population.save(3, 1), 1)
        self.assertEqual(population.save(3, 1), 2)
        weights = plain_weights(EXAMPLES, (7, ((2, 5, 4),)))
        self.assertEqual(population.saved(3, 0), (0, (0, 0), (7, ())))
        self.assertEqual(population.saved(3, 1), (4, weights, (7, ((2, 5, 4),))))
        self.assertEqual(population.saves(3), (0, 1, 2))
        self.assertEqual(population.state(3)[6], (3, 2))
        self.assertEqual(population.needed_saves(), ((3, 2),))
        self.assertEqual(population.spent, 4)

    def test_errors(self):
        population = behind(("found", 3, 7, 2, 5), ("crash", 3), ("found", 4, 7, 2, 5), ("stop", 4, 1))
        self.refused(population, ("save", 5, 1), "no such trial")
        self.refused(population, ("save", 4, 1), "trial is stopped")
        self.refused(population, ("save", 4, 2), "trial is stopped")
        self.refused(population, ("save", 3, 1), "incarnation is over")
        self.refused(population, ("save", 3, 3), "incarnation is over")

    def test_too_many_saves(self):
        population = behind(("found", 3, 7, 2, 5), *[("save", 3, 1)] * 999)
        self.assertEqual(population.save(3, 1), 999)
        self.refused(population, ("save", 3, 1), "too many saves")
        for index in range(0, 999, 100):
            population.drop(3, index)
        self.refused(population, ("save", 3, 1), "too many saves")
        self.assertEqual(len(population.saves(3)), 990)
        population.crash(3)
        self.refused(population, ("save", 3, 1), "incarnation is over")
        self.refused(population, ("save", 3, 2), "too many saves")
        population.stop(3, 2)
        self.refused(population, ("save", 3, 2), "trial is stopped")


class CrashTest(Case):
    def test_crash_of_a_trial_that_was_never_saved(self):
        population = behind(("found", 3, 7, 2, 5), ("train", 3, 1, 4), ("evaluate", 3, 1))
        score = population.state(3)[5]
        self.assertEqual(population.crash(3), 2)
        self.assertEqual(population.crash(3), 3)
        self.assertEqual(population.state(3), (3, 0, 2, 5, (0, 0), score, None, False))
        self.assertEqual((population.script(3), population.spent), ((7, ()), 4))

    def test_crash_behind_a_save(self):
        population = behind(("found", 3, 7, 2, 5), ("train", 3, 1, 4), ("save", 3, 1), ("train", 3, 1, 3),
                            ("evaluate", 3, 1), ("save", 3, 1), ("train", 3, 1, 1))
        score = population.state(3)[5]
        self.assertEqual(population.crash(3), 2)
        weights = plain_weights(EXAMPLES, (7, ((2, 5, 7),)))
        self.assertEqual(population.state(3), (2, 7, 2, 5, weights, score, (3, 1), False))
        self.assertEqual((population.saves(3), population.spent), ((0, 1), 8))

    def test_crash_behind_a_copy(self):
        population = behind(("found", 3, 7, 2, 5), ("train", 3, 1, 4), ("save", 3, 1), ("found", 4, 8, 1, 0),
                            ("train", 4, 1, 2), ("save", 4, 1), ("copy", 4, 1, 3, 0, 9, 1), ("train", 4, 1, 3),
                            ("evaluate", 4, 1))
        score = population.state(4)[5]
        self.assertEqual(population.crash(4), 2)
        weights = plain_weights(EXAMPLES, (7, ((2, 5, 4),)))
        self.assertEqual(population.state(4), (2, 4, 9, 1, weights, score, (3, 0), False))
        self.assertEqual(population.script(4), (7, ((2, 5, 4),)))

    def test_settings_are_those_of_the_home(self):
        population = behind(("found", 3, 7, 2, 5), ("train", 3, 1, 4), ("save", 3, 1), ("copy", 3, 1, 3, 0, 9, 1),
                            ("train", 3, 1, 1), ("save", 3, 1), ("copy", 3, 1, 3, 0, 4, 4), ("train", 3, 1, 1))
        population.crash(3)
        self.assertEqual(population.state(3)[1:4] + (population.script(3),), (4, 4, 4, (7, ((2, 5, 4),))))

    def test_errors(self):
        population = behind(("found", 4, 7, 2, 5), ("stop", 4, 1))
        self.refused(population, ("crash", 5), "no such trial")
        self.refused(population, ("crash", 4), "trial is stopped")


class EvaluateTest(Case):
    def test_evaluate(self):
        population = behind(("found", 3, 7, 2, 5))
        self.assertEqual(population.evaluate(3, 1), 0)
        self.assertEqual(population.state(3)[5], 0)
        population.train(3, 1, 4)
        self.assertEqual(population.state(3)[5], 0)
        score = score_of(VALIDATION, plain_weights(EXAMPLES, (7, ((2, 5, 4),))))
        self.assertGreater(score, 0)
        self.assertEqual(population.evaluate(3, 1), score)
        self.assertEqual(population.state(3)[5], score)

    def test_how_long_a_score_stays(self):
        population = behind(("found", 3, 7, 2, 5), ("save", 3, 1), ("train", 3, 1, 4))
        score = population.evaluate(3, 1)
        self.assertGreater(score, 0)
        for deed in (("train", 3, 1, 7), ("save", 3, 1), ("crash", 3), ("drop", 3, 0)):
            population.do(deed)
            self.assertEqual(population.state(3)[5], score)
        population.copy(3, 2, 3, 1, 1, 0)
        self.assertIsNone(population.state(3)[5])
        population.crash(3)
        self.assertIsNone(population.state(3)[5])
        self.assertEqual(population.evaluate(3, 3), population.state(3)[5])

    def test_a_stopped_trial_keeps_its_score(self):
        population = behind(("found", 3, 7, 2, 5), ("train", 3, 1, 4))
        score = population.evaluate(3, 1)
        population.stop(3, 1)
        self.assertEqual(population.state(3)[5], score)

    def test_it_is_that_of_the_validation_examples(self):
        one, other = (((5, 0), 1),), (((5, 0), -1),) * 7
        deeds = (("found", 0, 0, 1, 0), ("train", 0, 1, 1))
        self.assertEqual(behind(*deeds, training=one, validation=one).evaluate(0, 1), 1)
        self.assertEqual(behind(*deeds, training=one, validation=other).evaluate(0, 1), 0)
        self.assertEqual(behind(*deeds, training=other, validation=one).evaluate(0, 1), 0)
        self.assertEqual(behind(*deeds, training=other, validation=other).evaluate(0, 1), 7)

    def test_errors(self):
        population = behind(("found", 3, 7, 2, 5), ("crash", 3), ("found", 4, 7, 2, 5), ("stop", 4, 1))
        self.refused(population, ("evaluate", 5, 1), "no such trial")
        self.refused(population, ("evaluate", 4, 1), "trial is stopped")
        self.refused(population, ("evaluate", 4, 2), "trial is stopped")
        self.refused(population, ("evaluate", 3, 1), "incarnation is over")
        self.refused(population, ("evaluate", 3, 3), "incarnation is over")


class CopyTest(Case):
    def donors(self):
        return behind(("found", 3, 7, 2, 5), ("train", 3, 1, 4), ("save", 3, 1), ("train", 3, 1, 2), ("save", 3, 1),
                      ("found", 4, 8, 1, 0), ("train", 4, 1, 1), ("evaluate", 4, 1))

    def test_copy(self):
        population = self.donors()
        self.assertEqual(population.copy(4, 1, 3, 0, 100, 1000000), 4)
        weights = plain_weights(EXAMPLES, (7, ((2, 5, 4),)))
        self.assertEqual(population.state(4), (1, 4, 100, 1000000, weights, None, (3, 0), False))
        self.assertEqual(population.script(4), (7, ((2, 5, 4),)))
        self.assertEqual(population.spent, 7)
        self.assertEqual(population.saves(4), ())
        self.assertEqual(population.needed_saves(), ((3, 0), (3, 1)))
        self.assertEqual(population.state(3)[6], (3, 1))

    def test_steps_behind_a_copy(self):
        population = self.donors()
        population.copy(4, 1, 3, 0, 9, 1)
        self.assertEqual(population.train(4, 1, 3), 7)
        self.assertEqual(population.script(4), (7, ((2, 5, 4), (9, 1, 3))))
        self.assertEqual(population.state(4)[4], plain_weights(EXAMPLES, (7, ((2, 5, 4), (9, 1, 3)))))
        population.copy(4, 1, 3, 1, 2, 5)
        population.train(4, 1, 1)
        self.assertEqual(population.script(4), (7, ((2, 5, 7),)))
        self.assertEqual(population.saved(3, 1)[2], (7, ((2, 5, 6),)))

    def test_copy_from_itself_and_from_a_stopped_trial(self):
        population = self.donors()
        self.assertEqual(population.copy(3, 1, 3, 0, 1, 1), 4)
        self.assertEqual(population.state(3)[6], (3, 0))
        population.stop(3, 1)
        self.assertEqual(population.copy(4, 1, 3, 1, 1, 1), 6)
        self.assertEqual(population.needed_saves(), ((3, 1),))
        self.assertEqual(population.seeds(), (7,))

    def test_errors(self):
        population = self.donors()
        for donor, index in ((3, 0), (3, 9), (9, 0)):
            self.refused(population, ("copy", 5, 1, donor, index, 1, 0), "no such trial")
        population.crash(4)
        for donor, index in ((3, 0), (3, 9), (9, 0)):
            self.refused(population, ("copy", 4, 1, donor, index, 1, 0), "incarnation is over")
            self.refused(population, ("copy", 4, 3, donor, index, 1, 0), "incarnation is over")
        for donor, index in ((3, 2), (3, -1), (4, 0), (9, 0), (5, 0)):
            self.refused(population, ("copy", 4, 2, donor, index, 1, 0), "no such save")
        population.drop(3, 0)
        self.refused(population, ("copy", 4, 2, 3, 0, 1, 0), "no such save")
        self.refused(population, ("copy", 3, 1, 3, 0, 1, 0), "no such save")
        population.stop(4, 2)
        for donor, index in ((3, 1), (3, 0), (9, 0)):
            for incarnation in (1, 2):
                self.refused(population, ("copy", 4, incarnation, donor, index, 1, 0), "trial is stopped")

    def test_scripts_stay_normal_with_many_copies(self):
        deeds = [("found", 0, 5, 1, 0), ("save", 0, 1)]
        for k in range(600):
            deeds += [("copy", 0, 1, 0, k, 1 + k // 2 % 2, 0), ("train", 0, 1, 1), ("save", 0, 1)]
        population = behind(*deeds)
        script = population.script(0)
        self.assertEqual(script, (5, tuple((1 + k % 2, 0, 2) for k in range(300))))
        self.assertEqual(population.state(0)[4], train_alone(EXAMPLES, script))


class StopTest(Case):
    def test_stop(self):
        population = behind(("found", 3, 7, 2, 5), ("train", 3, 1, 4), ("save", 3, 1), ("found", 4, 8, 1, 0))
        before = population.state(3)
        self.assertIsNone(population.stop(3, 1))
        self.assertEqual(population.state(3), before[:7] + (True,))
        self.assertEqual((population.needed_saves(), population.seeds()), ((), (8,)))
        self.assertEqual((len(population), list(population), population.saves(3)), (2, [3, 4], (0,)))
        self.assertEqual(population.script(3), (7, ((2, 5, 4),)))

    def test_errors(self):
        population = behind(("found", 3, 7, 2, 5), ("crash", 3), ("found", 4, 7, 2, 5), ("stop", 4, 1))
        self.refused(population, ("stop", 5, 1), "no such trial")
        self.refused(population, ("stop", 4, 1), "trial is stopped")
        self.refused(population, ("stop", 4, 2), "trial is stopped")
        self.refused(population, ("stop", 3, 1), "incarnation is over")
        self.refused(population, ("stop", 3, 3), "incarnation is over")


class DropTest(Case):
    def test_drop(self):
        population = behind(("found", 3, 7, 2, 5), *[("save", 3, 1)] * 3)
        self.assertIsNone(population.drop(3, 1))
        self.assertEqual(population.saves(3), (0, 2))
        self.assertEqual(population.save(3, 1), 3)
        self.assertIsNone(population.drop(3, 2))
        self.assertEqual(population.saves(3), (0, 3))
        for index in (1, 2):
            with self.assertRaises(DeedFault) as caught:
                population.saved(3, index)
            self.assertEqual(caught.exception.reason, "no such save")

    def test_no_such_trial_and_no_such_save(self):
        population = behind(("found", 3, 7, 2, 5), *[("save", 3, 1)] * 2)
        self.refused(population, ("drop", 4, 0), "no such trial")
        for index in (2, -1, 1000):
            self.refused(population, ("drop", 3, index), "no such save")
        population.drop(3, 0)
        self.refused(population, ("drop", 3, 0), "no such save")
        population.stop(3, 1)
        self.refused(population, ("drop", 3, 0), "no such save")

    def test_save_is_needed(self):
        population = behind(("found", 3, 7, 2, 5), *[("save", 3, 1)] * 3, ("found", 4, 8, 1, 0))
        self.refused(population, ("drop", 3, 2), "save is needed")
        population.copy(4, 1, 3, 0, 1, 0)
        self.refused(population, ("drop", 3, 0), "save is needed")
        population.crash(4)
        self.refused(population, ("drop", 3, 0), "save is needed")
        population.stop(3, 1)
        population.drop(3, 2)
        self.refused(population, ("drop", 3, 0), "save is needed")
        population.save(4, 2)
        population.drop(3, 0)
        self.assertEqual(population.saves(3), (1,))

    def test_the_last_one_that_needs_it_is_stopped(self):
        population = behind(("found", 3, 7, 2, 5), ("train", 3, 1, 2), ("save", 3, 1), ("found", 4, 8, 1, 0),
                            ("copy", 4, 1, 3, 0, 1, 0), ("stop", 3, 1))
        self.refused(population, ("drop", 3, 0), "save is needed")
        population.stop(4, 1)
        home = population.state(4)[6]
        population.drop(3, 0)
        self.assertEqual((population.state(4)[6], home), ((3, 0), (3, 0)))
        self.assertEqual((population.saves(3), population.needed_saves()), ((), ()))


class ViewsTest(Case):
    def test_no_such_trial_and_no_such_save(self):
        population = behind(("found", 3, 7, 2, 5), *[("save", 3, 1)] * 2, ("drop", 3, 0))
        for call, reason in (
                (lambda: population.state(4), "no such trial"), (lambda: population.script(4), "no such trial"),
                (lambda: population.saves(4), "no such trial"), (lambda: population.saved(4, 0), "no such trial"),
                (lambda: population.saved(4, 9), "no such trial"), (lambda: population.saved(3, 0), "no such save"),
                (lambda: population.saved(3, 2), "no such save"), (lambda: population.saved(3, -1), "no such save")):
            with self.assertRaises(DeedFault) as caught:
                call()
            self.assertEqual(caught.exception.reason, reason)

    def test_seeds_and_needed_saves(self):
        population = behind(("found", 3, 7, 2, 5), ("found", 2, 9, 2, 5), ("found", 1, 7, 2, 5), ("save", 3, 1),
                            ("save", 2, 1), ("found", 0, 4, 1, 0))
        self.assertEqual((population.seeds(), population.needed_saves()), ((4, 7, 9), ((2, 0), (3, 0))))
        population.copy(1, 1, 2, 0, 1, 0)
        self.assertEqual((population.seeds(), population.needed_saves()), ((4, 7, 9), ((2, 0), (3, 0))))
        population.stop(3, 1)
        self.assertEqual((population.seeds(), population.needed_saves()), ((4, 9), ((2, 0),)))

    def test_iteration_is_in_the_order_of_the_founding(self):
        population = behind(*[("found", k, 0, 1, 0) for k in (5, 99, 0, 7)])
        population.train(0, 1, 1)
        population.stop(5, 1)
        population.crash(99)
        self.assertEqual(list(population), [5, 99, 0, 7])
        self.assertEqual(sorted(population), [0, 5, 7, 99])
        self.assertEqual(len(population), 4)

    def test_changes_while_it_is_iterated(self):
        population = behind(*[("found", k, 0, 1, 0) for k in (5, 9, 7)])
        seen = []
        for trial in population:
            seen.append(trial)
            population.train(trial, 1, 1)
            self.assertEqual(population.foresee(("found", 50, 0, 1, 0)), (True, 1))
        self.assertEqual((seen, population.spent), ([5, 9, 7], 3))

    def test_views_do_not_change_with_the_population(self):
        population = behind(("found", 3, 7, 2, 5), ("save", 3, 1))
        state, script, saves = population.state(3), population.script(3), population.saves(3)
        population.train(3, 1, 5)
        population.save(3, 1)
        self.assertEqual((state, script, saves), ((1, 0, 2, 5, (0, 0), None, (3, 0), False), (7, ()), (0,)))
        for value in (state, script, saves, population.needed_saves(), population.seeds(), population.saved(3, 1)):
            self.assertIsInstance(value, tuple)


class DoTest(Case):
    def test_what_the_changes_tell(self):
        population = Population(EXAMPLES, VALIDATION)
        for deed, told in ((("found", 3, 7, 2, 5), 1), (("train", 3, 1, 4), 4), (("save", 3, 1), 0),
                           (("crash", 3), 2), (("evaluate", 3, 2), 3), (("copy", 3, 2, 3, 0, 1, 0), 4),
                           (("save", 3, 2), 1), (("drop", 3, 0), None), (("stop", 3, 2), None)):
            self.assertEqual(population.foresee(deed), (True, told))
            if told is None or told % 2:
                self.assertEqual(population.do(deed), told)
            else:
                self.assertEqual(population.outcome(deed), (True, told))

    def test_methods_by_the_names_of_their_arguments(self):
        for name, names in METHODS.items():
            population = behind(("found", 3, 7, 2, 5), ("train", 3, 1, 4), ("save", 3, 1), ("save", 3, 1))
            deed = {"found": (4, 7, 2, 5), "train": (3, 1, 5), "crash": (3,), "copy": (3, 1, 3, 0, 9, 8),
                    "drop": (3, 0)}.get(name, (3, 1))
            told = population.foresee((name,) + deed)
            self.assertEqual((True, getattr(population, name)(**dict(zip(names, deed)))), told)

    def test_a_name_of_no_change(self):
        population, twin = behind(("found", 3, 7, 2, 5), ("save", 3, 1)), behind(("found", 3, 7, 2, 5), ("save", 3, 1))
        with self.assertRaises(TrialError):
            population.do(("state", 3))
        self.assertEqual(population, twin)

    def test_deeds_are_not_modified(self):
        deeds = (("found", 3, 7, 2, 5), ("train", 3, 1, 4))
        behind(*deeds)
        self.assertEqual(deeds, (("found", 3, 7, 2, 5), ("train", 3, 1, 4)))


class SomeDeedsTest(unittest.TestCase):
    def test_against_the_plain_population(self):
        dice = dice_of(40)
        seen = set()
        for _ in range(150):
            width = dice.randint(1, 3)
            training, validation = (tuple(
                (tuple(dice.randint(-9, 9) for _ in range(width)), dice.choice((1, -1)))
                for _ in range(dice.randint(1, 6))) for _ in range(2))
            population, plain = Population(training, validation), PlainPopulation(training, validation)
            for _ in range(60):
                deed = some_deed(dice)
                told = plain.foresee(deed)
                before = views(population)
                self.assertEqual(population.foresee(deed), told)
                self.assertEqual(views(population), before)
                self.assertEqual(population.outcome(deed), told)
                plain.deed(deed)
                seen.add((deed[0], told[0] or told[1]))
                self.assertEqual(views(population), plain.views())
        self.assertLessEqual({(name, True) for name in METHODS}, seen)
        for name in ("train", "save", "evaluate", "copy", "stop"):
            for reason in ("no such trial", "trial is stopped", "incarnation is over"):
                self.assertIn((name, reason), seen)
        self.assertLessEqual({("copy", "no such save"), ("drop", "no such save"), ("drop", "save is needed"),
                              ("found", "trial exists"), ("crash", "trial is stopped")}, seen)

    def test_states_are_those_of_their_scripts(self):
        dice = dice_of(41)
        for _ in range(60):
            examples = some_examples(dice)
            population = Population(examples, examples)
            for _ in range(150):
                population.outcome(some_deed(dice))
            for trial in population:
                script = population.script(trial)
                self.assertEqual(script, normal(script))
                self.assertEqual(population.state(trial)[4], train_alone(examples, script))
                for index in population.saves(trial):
                    position, weights, script = population.saved(trial, index)
                    self.assertEqual(script, normal(script))
                    self.assertEqual(position, sum(stretch[2] for stretch in script[1]))
                    self.assertEqual(weights, train_alone(examples, script))
