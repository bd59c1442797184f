"""Point 21: deeds that are independent, and exchanges of them."""

import unittest

from tests.plain import EXAMPLES, dice_of, some_examples
from tests.plain_population import VALIDATION, PlainPopulation, some_deed, views
from trialcopies.deeds import after, exchanges, independent, judge_exchanges, outcomes
from trialcopies.errors import BadExamples
from trialcopies.populations import Population

ROW = (("found", 1, 7, 2, 5), ("found", 2, 8, 1, 0), ("train", 1, 1, 4), ("save", 1, 1), ("train", 2, 1, 3),
       ("copy", 2, 1, 1, 0, 3, 3), ("evaluate", 1, 1), ("evaluate", 2, 1))


def plain_independent(one, other):
    """Whether two deeds are independent, by the words of point 21."""
    if one[0] == "drop" or other[0] == "drop":
        return False
    if one[1] == other[1]:
        return False
    for first, second in ((one, other), (other, one)):
        if first[0] == "copy" and second[0] in ("found", "save") and first[3] == second[1]:
            return False
    return True


def reached(row):
    """How many exchanges it takes to each row that exchanges lead to, by a search."""
    told = {row: 0}
    rows = [row]
    for first in rows:
        for k in range(len(first) - 1):
            if plain_independent(first[k], first[k + 1]):
                other = first[:k] + (first[k + 1], first[k]) + first[k + 2:]
                if other not in told:
                    told[other] = told[first] + 1
                    rows.append(other)
    return told


class OutcomesTest(unittest.TestCase):
    def test_outcomes(self):
        deeds = ROW + (("found", 1, 7, 2, 5), ("drop", 1, 0), ("train", 9, 1, 1), ("crash", 2), ("stop", 2, 1),
                       ("stop", 2, 2), ("drop", 1, 1), ("save", 2, 2))
        told = outcomes(EXAMPLES, VALIDATION, deeds)
        self.assertIsInstance(told, tuple)
        self.assertEqual(told[:6], ((True, 1), (True, 1), (True, 4), (True, 0), (True, 3), (True, 4)))
        self.assertEqual(told[8:], (
            (False, "trial exists"), (False, "save is needed"), (False, "no such trial"), (True, 2),
            (False, "incarnation is over"), (True, None), (False, "no such save"), (False, "trial is stopped")))

    def test_no_deeds(self):
        self.assertEqual(outcomes(EXAMPLES, VALIDATION, ()), ())
        self.assertEqual(after(EXAMPLES, VALIDATION, ()), Population(EXAMPLES, VALIDATION))

    def test_after(self):
        population = Population(EXAMPLES, VALIDATION)
        for deed in ROW:
            population.do(deed)
        self.assertEqual(after(EXAMPLES, VALIDATION, ROW), population)
        self.assertEqual(after(EXAMPLES, VALIDATION, (("train", 1, 1, 1),) + ROW + (("drop", 5, 0),)), population)

    def test_bad_examples(self):
        for pair in (((), EXAMPLES), (EXAMPLES, ()), (EXAMPLES, (((1,), 1),))):
            for call in (outcomes, after):
                with self.assertRaises(BadExamples):
                    call(*pair, ())

    def test_against_the_plain_population(self):
        dice = dice_of(50)
        for _ in range(60):
            examples = some_examples(dice, most=4)
            deeds = tuple(some_deed(dice, trials=3) for _ in range(dice.randint(0, 40)))
            plain = PlainPopulation(examples, examples)
            self.assertEqual(outcomes(examples, examples, deeds), tuple(plain.deed(deed) for deed in deeds))
            self.assertEqual(views(after(examples, examples, deeds)), plain.views())


class IndependentTest(unittest.TestCase):
    def both(self, one, other, told):
        self.assertIs(independent(one, other), told)
        self.assertIs(independent(other, one), told)

    def test_different_trials(self):
        rows = [("found", 1, 7, 2, 5), ("train", 1, 1, 4), ("save", 1, 1), ("crash", 1), ("evaluate", 1, 1),
                ("copy", 1, 1, 3, 0, 3, 3), ("stop", 1, 1)]
        for one in rows:
            for other in rows:
                self.both(one, other[:1] + (2,) + other[2:], True)

    def test_the_same_trial(self):
        rows = [("found", 1, 7, 2, 5), ("train", 1, 1, 4), ("save", 1, 1), ("crash", 1), ("evaluate", 1, 1),
                ("copy", 1, 1, 3, 0, 3, 3), ("stop", 1, 1), ("drop", 1, 0), ("train", 1, 2, 5)]
        for one in rows:
            for other in rows:
                self.both(one, other, False)

    def test_drops(self):
        for deed in (("found", 2, 7, 2, 5), ("train", 2, 1, 4), ("save", 2, 1), ("crash", 2), ("evaluate", 2, 1),
                     ("copy", 2, 1, 3, 0, 3, 3), ("stop", 2, 1), ("drop", 2, 0)):
            self.both(("drop", 1, 0), deed, False)

    def test_copies_of_the_other_trial(self):
        copy = ("copy", 2, 1, 1, 0, 3, 3)
        self.both(copy, ("found", 1, 7, 2, 5), False)
        self.both(copy, ("save", 1, 1), False)
        self.both(copy, ("found", 3, 7, 2, 5), True)
        self.both(copy, ("save", 3, 1), True)
        for deed in (("train", 1, 1, 4), ("crash", 1), ("evaluate", 1, 1), ("stop", 1, 1),
                     ("copy", 1, 1, 2, 0, 3, 3), ("copy", 1, 1, 1, 0, 3, 3), ("copy", 3, 1, 1, 0, 3, 3)):
            self.both(copy, deed, True)

    def test_other_numbers_do_not_count(self):
        # The trial 2 is named by an incarnation, a seed, an index, a rate.
        self.both(("save", 1, 2), ("copy", 3, 1, 4, 1, 1, 1), True)
        self.both(("found", 1, 4, 4, 4), ("copy", 3, 4, 4, 1, 1, 1), True)
        self.both(("save", 4, 1), ("copy", 3, 4, 1, 4, 4, 4), True)
        self.both(("train", 2, 1, 1), ("train", 1, 2, 2), True)

    def test_against_the_words(self):
        dice = dice_of(51)
        seen = {True: 0, False: 0}
        for _ in range(3000):
            one, other = some_deed(dice), some_deed(dice)
            told = plain_independent(one, other)
            seen[told] += 1
            self.both(one, other, told)
        self.assertGreater(min(seen.values()), 300)


class JudgeExchangesTest(unittest.TestCase):
    def test_taken(self):
        self.assertIs(judge_exchanges((), (), ()), True)
        self.assertIs(judge_exchanges(ROW, ROW, ()), True)
        self.assertIs(judge_exchanges(ROW, ROW, (0, 0)), True)
        self.assertIs(judge_exchanges(ROW, (ROW[1], ROW[0]) + ROW[2:], (0,)), True)
        self.assertIs(judge_exchanges(ROW, (ROW[1], ROW[0]) + ROW[2:], (6, 0, 6)), True)
        self.assertIs(judge_exchanges(ROW, ROW[:6] + (ROW[7], ROW[6]), (6,)), True)
        other = (ROW[1], ROW[4], ROW[0]) + ROW[2:4] + ROW[5:]
        self.assertIs(judge_exchanges(ROW, other, (0, 3, 2, 1)), True)

    def test_one_behind_the_other(self):
        other = (ROW[1], ROW[4], ROW[0]) + ROW[2:4] + ROW[5:]
        for places in ((0, 1, 2, 3), (3, 2, 1, 0), (2, 3, 0, 1)):
            self.assertIs(judge_exchanges(ROW, other, places), False)
        for places in ((3, 0, 2, 1), (3, 2, 0, 1)):
            self.assertIs(judge_exchanges(ROW, other, places), True)

    def test_they_lead_elsewhere(self):
        self.assertIs(judge_exchanges(ROW, ROW, (0,)), False)
        self.assertIs(judge_exchanges(ROW, (ROW[1], ROW[0]) + ROW[2:], ()), False)
        self.assertIs(judge_exchanges(ROW, ROW[:-1], ()), False)
        self.assertIs(judge_exchanges(ROW[:-1], ROW, ()), False)
        self.assertIs(judge_exchanges(ROW, (), ()), False)

    def test_deeds_that_are_not_independent(self):
        for place in (1, 2, 4, 5):
            told = plain_independent(ROW[place], ROW[place + 1])
            other = ROW[:place] + (ROW[place + 1], ROW[place]) + ROW[place + 2:]
            self.assertIs(judge_exchanges(ROW, other, (place,)), told)
            # Also if the row is the same again in the end.
            self.assertIs(judge_exchanges(ROW, ROW, (place, place)), told)
        drops = (("drop", 1, 0), ("crash", 2))
        self.assertIs(judge_exchanges(drops, (drops[1], drops[0]), (0,)), False)

    def test_equal_deeds(self):
        row = (("crash", 1), ("crash", 1))
        self.assertIs(judge_exchanges(row, row, ()), True)
        self.assertIs(judge_exchanges(row, row, (0,)), False)

    def test_places_out_of_range(self):
        other = (ROW[1], ROW[0]) + ROW[2:]
        self.assertIs(judge_exchanges(ROW, other, (0,)), True)
        for place in (-1, -2, -8, -9, 7, 8, 100, 10 ** 300, -10 ** 300):
            self.assertIs(judge_exchanges(ROW, other, (0, place)), False)
            self.assertIs(judge_exchanges(ROW, other, (place, 0)), False)
            self.assertIs(judge_exchanges(ROW, ROW, (place, place)), False)
        for row in ((), ROW[:1]):
            for place in (-2, -1, 0, 1):
                self.assertIs(judge_exchanges(row, row, (place,)), False)
                self.assertIs(judge_exchanges(row, row, (place, place)), False)

    def test_values_that_are_no_places(self):
        class Nasty:
            def __eq__(self, other):
                raise RuntimeError("no comparison")

            def __iter__(self):
                raise RuntimeError("no iteration")

            def __index__(self):
                raise RuntimeError("no index")

            __lt__ = __le__ = __gt__ = __ge__ = __eq__

        class NastyTuple(tuple):
            def __iter__(self):
                raise RuntimeError("no iteration")

        values = (None, True, False, 0, 1, 1.0, "", "0", b"", b"00", [], [0, 0], [0], {}, {0: 0}, {0}, frozenset(),
                  range(0), range(1), iter(()), object(), int, Nasty(), NastyTuple((0, 0)), (0, (0,)), ("0", "0"),
                  (None,), (0, None), (0, 0, None), (0.0, 0), (0, 0.0), (False, 0), (0, False), (False, False),
                  ((0, 0),), ([0],), (Nasty(), 0), (0, Nasty()), (b"0",), (float("nan"),))
        for value in values:
            self.assertIs(judge_exchanges(ROW, ROW, value), False)
            self.assertIs(judge_exchanges(ROW, (ROW[1], ROW[0]) + ROW[2:], value), False)
            self.assertIs(judge_exchanges((), (), value), False)

    def test_nothing_is_modified(self):
        row, places = tuple(ROW), (0, 6)
        judge_exchanges(row, (ROW[1], ROW[0]) + ROW[2:], places)
        self.assertEqual((row, places), (ROW, (0, 6)))


class ExchangesTest(unittest.TestCase):
    def leads(self, row, other, many):
        """It takes so many exchanges from one row to the other one."""
        places = exchanges(row, other)
        self.assertIsInstance(places, tuple)
        self.assertIs(judge_exchanges(row, other, places), True)
        self.assertEqual(len(places), many)

    def test_some_rows(self):
        self.leads((), (), 0)
        self.leads(ROW, ROW, 0)
        self.leads(ROW, (ROW[1], ROW[0]) + ROW[2:], 1)
        self.leads(ROW, (ROW[1], ROW[4], ROW[0]) + ROW[2:4] + ROW[5:], 4)
        many = tuple(("crash", k) for k in range(30))
        self.leads(many, tuple(reversed(many)), 435)
        self.leads(many, many[1:] + many[:1], 29)
        self.leads(many, many[29:] + many[:29], 29)

    def test_equal_deeds_keep_their_sequence(self):
        one, other = ("crash", 1), ("crash", 2)
        self.leads((one, one, other), (other, one, one), 2)
        self.leads((one, other, one, other), (other, other, one, one), 3)
        self.leads((one, one), (one, one), 0)

    def test_no_exchanges_lead_there(self):
        for row, other in (
                (ROW, ROW[:-1]), (ROW[:-1], ROW), (ROW, ()), ((), ROW), (ROW, ROW + ROW[:1]),
                (ROW[:2], (ROW[0], ROW[0])), ((ROW[0], ROW[0]), ROW[:2]), ((("crash", 1),), (("crash", 2),)),
                # On the same trial; a copy and the save; a drop.
                ((ROW[2], ROW[3]), (ROW[3], ROW[2])), ((ROW[3], ROW[5]), (ROW[5], ROW[3])),
                ((("drop", 1, 0), ("crash", 2)), (("crash", 2), ("drop", 1, 0))),
                ((("crash", 2), ("drop", 1, 0)), (("drop", 1, 0), ("crash", 2))),
                ((("crash", 2), ("crash", 3), ("drop", 1, 0)), (("crash", 3), ("drop", 1, 0), ("crash", 2)))):
            self.assertIsNone(exchanges(row, other))

    def test_not_over_a_deed_between(self):
        # Each trial by itself keeps its sequence, but none may come over the drop.
        row = (("crash", 1), ("drop", 3, 0), ("crash", 2))
        for other in ((row[2], row[1], row[0]), (row[0], row[2], row[1]), (row[1], row[0], row[2])):
            self.assertIsNone(exchanges(row, other))

    def test_against_a_search(self):
        dice = dice_of(52)
        seen = {True: 0, False: 0}
        for _ in range(300):
            row = tuple(some_deed(dice, trials=3) for _ in range(dice.randint(1, 6)))
            told = reached(row)
            for other, many in list(told.items())[:40]:
                self.leads(row, other, many)
            for _ in range(10):
                other = list(row)
                dice.shuffle(other)
                other = tuple(other)
                seen[other in told] += 1
                if other in told:
                    self.leads(row, other, told[other])
                else:
                    self.assertIsNone(exchanges(row, other))
        self.assertGreater(min(seen.values()), 300)

    def test_places_against_a_search(self):
        dice = dice_of(53)
        seen = {True: 0, False: 0}
        for _ in range(2000):
            row = tuple(some_deed(dice, trials=4) for _ in range(dice.randint(1, 5)))
            places = tuple(dice.randint(0, 3) for _ in range(dice.randint(0, 4)))
            other, right = row, True
            for k in places:
                right = right and k < len(row) - 1 and plain_independent(other[k], other[k + 1])
                other = other[:k] + other[k + 1:k + 2] + other[k:k + 1] + other[k + 2:]
            seen[right] += 1
            self.assertIs(judge_exchanges(row, other, places), right)
        self.assertGreater(min(seen.values()), 300)

    def test_the_same_outcomes_and_equal_populations(self):
        dice = dice_of(54)
        moved = 0
        for _ in range(250):
            examples = some_examples(dice, most=3)
            row = tuple(some_deed(dice, trials=4, seeds=2) for _ in range(dice.randint(5, 40)))
            other = list(row)
            for _ in range(200):
                k = dice.randrange(len(row) - 1)
                if independent(other[k], other[k + 1]):
                    other[k], other[k + 1] = other[k + 1], other[k]
            other = tuple(other)
            moved += other != row
            self.assertIs(judge_exchanges(row, other, exchanges(row, other)), True)
            one, two = outcomes(examples, examples, row), outcomes(examples, examples, other)
            # Equal deeds keep their sequence, so that a stable sorting puts the same deeds side by side.
            self.assertEqual(sorted(zip(row, one), key=lambda pair: pair[0]),
                             sorted(zip(other, two), key=lambda pair: pair[0]))
            self.assertEqual(after(examples, examples, row), after(examples, examples, other))
        self.assertGreater(moved, 200)

    def test_long_rows(self):
        row = tuple(("train", k % 50, 1, 1 + k // 50) for k in range(600))
        other = tuple(sorted(row, key=lambda deed: (deed[1], deed[3])))
        places = exchanges(row, other)
        self.assertIs(judge_exchanges(row, other, places), True)
        self.assertIsNone(exchanges(row, tuple(reversed(other))))

    def test_nothing_is_modified(self):
        row, other = tuple(ROW), (ROW[1], ROW[0]) + ROW[2:]
        exchanges(row, other)
        self.assertEqual((row, other), (ROW, (ROW[1], ROW[0]) + ROW[2:]))
