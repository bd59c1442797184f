"""Point 18: advice."""

import unittest

from tests.plain import dice_of
from tests.plain_population import VALIDATION, PlainPopulation, behind, some_deed
from trialcopies.errors import DeedFault
from trialcopies.populations import Population


def ranked(*scores, settings=(10, 50)):
    """A population whose trials 0, 1, .. have these scores (0, 2 or None) and one saved state each."""
    deeds = []
    for trial, score in enumerate(scores):
        deeds.append(("found", trial, 0) + settings)
        if score == 2:
            # Without steps no example is met, behind one step each is.
            deeds.append(("train", trial, 1, 1))
        deeds.append(("save", trial, 1))
        if score is not None:
            deeds.append(("evaluate", trial, 1))
    population = behind(*deeds, training=(((1,), 1),), validation=(((1,), 1), ((1,), 1)))
    if [population.state(trial)[5] for trial in population] != list(scores):
        raise AssertionError("the trials have other scores")
    return population


class RankingTest(unittest.TestCase):
    def advice(self, population, draw=0):
        """The trials for which there is advice, with their donors."""
        told = {}
        for trial in population:
            if not population.state(trial)[7]:
                advice = population.advise(trial, draw)
                if advice is not None:
                    told[trial] = advice[0]
        return told

    def test_few_trials(self):
        self.assertEqual(self.advice(ranked()), {})
        self.assertEqual(self.advice(ranked(0)), {})
        self.assertEqual(self.advice(ranked(2, 2, 0)), {})
        for draw in (0, 1, 1000000):
            self.assertEqual(self.advice(ranked(2, 2, 0), draw), {})

    def test_a_quarter_rounded_down(self):
        self.assertEqual(self.advice(ranked(2, 2, 0, 2)), {2: 0})
        self.assertEqual(self.advice(ranked(2, 2, 0, 2, 0, 0, 2)), {5: 0})
        self.assertEqual(self.advice(ranked(2, 2, 0, 2, 0, 0, 2, 0)), {5: 0, 7: 0})
        self.assertEqual(self.advice(ranked(0, 2, 0, 2, 0, 0, 2, 0), 1), {5: 3, 7: 3})
        self.assertEqual(self.advice(ranked(0, 2, 0, 2, 0, 0, 2, 0), 2), {5: 1, 7: 1})

    def test_ascending_numbers_among_equal_scores(self):
        self.assertEqual(self.advice(ranked(2, 2, 2, 2)), {3: 0})
        self.assertEqual(self.advice(ranked(0, 0, 0, 0)), {3: 0})
        deeds = [row for trial in (9, 3, 7, 1) for row in (
            ("found", trial, 0, 1, 0), ("save", trial, 1), ("evaluate", trial, 1))]
        self.assertEqual(self.advice(behind(*deeds)), {9: 1})

    def test_trials_that_are_not_in_the_ranking(self):
        self.assertEqual(self.advice(ranked(2, 2, 0, 2, None)), {2: 0})
        self.assertEqual(self.advice(ranked(2, 2, 0, None)), {})
        population = ranked(2, 2, 0, 2, 0)
        self.assertEqual(self.advice(population), {4: 0})
        population.stop(0, 1)
        self.assertEqual(self.advice(population), {4: 1})
        population.stop(1, 1)
        self.assertEqual(self.advice(population), {})

    def test_a_copy_leaves_the_ranking(self):
        population = ranked(2, 2, 0, 2)
        population.copy(2, 1, 0, 0, 1, 0)
        self.assertEqual(self.advice(population), {})
        population.evaluate(2, 1)
        self.assertEqual(self.advice(population), {3: 0})

    def test_errors(self):
        population = ranked(2, 2, 0, 2)
        population.stop(2, 1)
        for trial, reason in ((4, "no such trial"), (2, "trial is stopped")):
            for draw in (0, 1000000):
                with self.assertRaises(DeedFault) as caught:
                    population.advise(trial, draw)
                self.assertEqual(caught.exception.reason, reason)

    def test_nothing_changes(self):
        population, twin = ranked(2, 2, 0, 2), ranked(2, 2, 0, 2)
        population.advise(2, 5)
        self.assertEqual(population, twin)


class DonorTest(unittest.TestCase):
    def test_the_saved_state_with_the_greatest_index_that_is_there(self):
        population = ranked(2, 2, 0, 2)
        self.assertEqual(population.advise(2, 0)[:2], (0, 0))
        for _ in range(3):
            population.save(0, 1)
        self.assertEqual(population.advise(2, 0)[:2], (0, 3))
        population.copy(0, 1, 1, 0, 10, 50)
        population.evaluate(0, 1)
        population.drop(0, 3)
        self.assertEqual(population.advise(2, 0)[:2], (0, 2))
        population.drop(0, 0)
        self.assertEqual(population.advise(2, 0)[:2], (0, 2))

    def test_no_saved_state(self):
        population = ranked(2, 2, 0, 2)
        population.copy(0, 1, 1, 0, 10, 50)
        population.evaluate(0, 1)
        population.drop(0, 0)
        self.assertIsNone(population.advise(2, 0))
        population.save(0, 1)
        self.assertEqual(population.advise(2, 0)[:2], (0, 1))

    def test_the_present_settings_of_the_donor(self):
        population = ranked(2, 2, 0, 2)
        population.copy(0, 1, 1, 0, 20, 100)
        population.evaluate(0, 1)
        self.assertEqual(population.advise(2, 0), (0, 0, 24, 120))

    def test_the_place_in_the_ranking(self):
        population = ranked(*[2] * 4, *[0] * 8)
        for draw in range(30):
            for trial in (9, 10, 11):
                self.assertEqual(population.advise(trial, draw)[0], draw % 3)
            self.assertIsNone(population.advise(8, draw))

    def test_the_advice_can_be_done(self):
        population = ranked(2, 2, 0, 2)
        self.assertEqual(population.outcome(("copy", 2, 1) + population.advise(2, 7)), (True, 1))


class TurnedTest(unittest.TestCase):
    def turned(self, settings, told):
        """The settings for the draws 0, 1, 2, 3, with q = 1."""
        population = ranked(2, 2, 0, 2, settings=settings)
        for draw in range(12):
            self.assertEqual(population.advise(2, draw), (0, 0) + told[draw % 4])
        # A million is a multiple of four.
        self.assertEqual(population.advise(2, 1000000), (0, 0) + told[0])
        self.assertEqual(population.advise(2, 999999), (0, 0) + told[3])

    def test_a_fifth(self):
        self.turned((10, 50), ((12, 60), (8, 60), (12, 40), (8, 40)))

    def test_a_fifth_is_rounded_up(self):
        self.turned((11, 51), ((14, 62), (8, 62), (14, 40), (8, 40)))
        self.turned((14, 54), ((17, 65), (11, 65), (17, 43), (11, 43)))
        self.turned((15, 55), ((18, 66), (12, 66), (18, 44), (12, 44)))
        self.turned((2, 1), ((3, 2), (1, 2), (3, 0), (1, 0)))

    def test_limits(self):
        self.turned((1, 0), ((2, 0), (1, 0), (2, 0), (1, 0)))
        self.turned((100, 1000000), ((100, 1000000), (80, 1000000), (100, 800000), (80, 800000)))
        self.turned((84, 833333), ((100, 1000000), (67, 1000000), (100, 666666), (67, 666666)))
        self.turned((83, 833332), ((100, 999999), (66, 999999), (100, 666665), (66, 666665)))
        self.turned((82, 833334), ((99, 1000000), (65, 1000000), (99, 666667), (65, 666667)))

    def test_by_the_draw_and_the_quarter(self):
        population = ranked(*[2] * 4, *[0] * 8)
        told = ((12, 60), (8, 60), (12, 40), (8, 40))
        for draw in range(40):
            self.assertEqual(population.advise(11, draw), (draw % 3, 0) + told[draw // 3 % 4])


class SomePopulationsTest(unittest.TestCase):
    def test_against_the_words(self):
        dice = dice_of(42)
        seen = {True: 0, False: 0}
        for _ in range(60):
            training = tuple(((dice.randint(-9, 9), dice.randint(-9, 9)), dice.choice((1, -1))) for _ in range(5))
            population, plain = Population(training, VALIDATION), PlainPopulation(training, VALIDATION)
            for _ in range(220):
                deed = some_deed(dice, trials=12)
                population.outcome(deed)
                plain.deed(deed)
            for trial in population:
                if not population.state(trial)[7]:
                    for draw in (0, 1, 2, 3, 4, 5, 6, 7, 8, 11, 1000000, dice.randrange(1000000)):
                        told = plain.advise(trial, draw)
                        seen[told is None] += 1
                        self.assertEqual(population.advise(trial, draw), told)
        self.assertGreater(min(seen.values()), 100)
