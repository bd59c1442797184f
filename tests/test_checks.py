"""Points 3 to 5: right and wrong examples and scripts."""

import unittest

from tests.plain import EXAMPLES
from trialcopies.errors import BadExamples, BadScript, TrialError
from trialcopies.scripts import check_script
from trialcopies.training import check_examples

NO_TUPLES = (None, True, False, 0, 1, -1, 2 ** 70, 1.0, "", "ab", "abc", b"", b"ab", b"abc", [], {}, set(),
             (), [(1,), 1], {"a": 1, "b": 2}, {1, 2, 3}, frozenset((1, 2)), range(2), range(3), object(),
             iter(()), lambda: 0, int, tuple)
NO_NUMBERS = (None, True, False, 1.0, 1.5, "1", "", b"1", b"", (), (1,), [1], [], {}, {1}, 1j, object(), int)


class ExamplesTest(unittest.TestCase):
    def right(self, value):
        self.assertIsNone(check_examples(value))

    def wrong(self, value):
        with self.subTest(repr(value)[:80]):
            with self.assertRaises(BadExamples) as caught:
                check_examples(value)
            self.assertIs(type(caught.exception), BadExamples)
            self.assertIsInstance(caught.exception, TrialError)
            self.assertIsInstance(caught.exception, ValueError)

    def test_ordinary_ones(self):
        self.right(EXAMPLES)
        self.right((((0,), 1),))
        self.right((((0, 0, 7), 1), ((0, 0, 7), 1), ((0, 0, 7), -1)))

    def test_how_many_examples(self):
        for many in (1, 2, 49, 50):
            self.right((((1, 2), 1),) * many)
        for many in (0, 51, 52, 1000):
            self.wrong((((1, 2), 1),) * many)

    def test_how_many_features(self):
        for many in range(1, 9):
            self.right((((3,) * many, 1), ((4,) * many, -1)))
        for many in (0, 9, 10, 100):
            self.wrong((((3,) * many, 1),))
            self.wrong((((3,) * many, 1), ((4,) * many, -1)))

    def test_features(self):
        for feature in (-100, -99, -1, 0, 1, 99, 100):
            self.right((((feature,), 1),))
            self.right((((1, feature, 1), 1), ((1, 1, feature), -1)))
        for feature in NO_NUMBERS + (-101, 101, -2 ** 70, 2 ** 70):
            self.wrong((((feature,), 1),))
            self.wrong((((1, feature), 1), ((1, 1), 1)))
            self.wrong((((1, 1), 1), ((1, feature), 1)))

    def test_labels(self):
        for label in (1, -1):
            self.right((((1,), label),))
        for label in NO_NUMBERS + (0, 2, -2, 100, 2 ** 70, -1.0):
            self.wrong((((1,), label),))
            self.wrong((((1,), 1), ((1,), label)))

    def test_as_many_features_in_all(self):
        self.wrong((((1, 2), 1), ((1,), 1)))
        self.wrong((((1,), 1), ((1, 2), 1)))
        self.wrong((((1, 2), 1),) * 49 + (((1, 2, 3), 1),))
        self.wrong((((1, 2), 1), ((1, 2, 3), 1), ((1, 2), 1)))

    def test_tuples_too_short_and_too_long(self):
        for example in ((), ((1,),), ((1,), 1, 1), ((1,), 1, None), (1, (1,)), ((1, 2), (1, 2))):
            self.wrong((example,))
            self.wrong((((1,), 1), example))

    def test_lists_and_other_kinds_in_the_place_of_tuples(self):
        self.wrong([((1,), 1)])
        self.wrong(([(1,), 1],))
        self.wrong((([1], 1),))
        self.wrong((((1,), 1), ([1], 1)))
        self.wrong((((1,), 1), [(1,), 1]))
        for value in NO_TUPLES:
            self.wrong(value)
            self.wrong((value,))
            self.wrong(((value, 1),))
            self.wrong((((1,), 1), value))
        self.wrong((({1: 1}, 1),))
        self.wrong((("a", 1),))
        self.wrong(((b"a", 1),))
        self.wrong({((1,), 1): 1})

    def test_examples_are_not_modified(self):
        value = (((2, 1), 1), ((1, 3), -1))
        check_examples(value)
        self.assertEqual(value, (((2, 1), 1), ((1, 3), -1)))
        value = [((1,), 1)]
        self.wrong(value)
        self.assertEqual(value, [((1,), 1)])


class ScriptTest(unittest.TestCase):
    def right(self, value):
        self.assertIsNone(check_script(value))

    def wrong(self, value):
        with self.subTest(repr(value)[:80]):
            with self.assertRaises(BadScript) as caught:
                check_script(value)
            self.assertIs(type(caught.exception), BadScript)
            self.assertIsInstance(caught.exception, TrialError)
            self.assertIsInstance(caught.exception, ValueError)

    def test_ordinary_ones(self):
        self.right((0, ()))
        self.right((7, ((1, 0, 2), (1, 0, 3), (2, 0, 1))))
        self.right((7, ((5, 4, 3), (4, 5, 3))))

    def test_seeds(self):
        for seed in (0, 1, 999999, 1000000):
            self.right((seed, ()))
            self.right((seed, ((1, 0, 1),)))
        for seed in NO_NUMBERS + (-1, 1000001, -2 ** 70, 2 ** 70):
            self.wrong((seed, ()))
            self.wrong((seed, ((1, 0, 1),)))

    def test_how_many_stretches(self):
        for many in (0, 1, 499, 500):
            self.right((0, ((1, 0, 1),) * many))
            self.right((0, tuple((1 + k % 2, k, 20) for k in range(many))))
        for many in (501, 502, 2000):
            self.wrong((0, ((1, 0, 1),) * many))
            self.wrong((0, tuple((1 + k % 2, k, 1) for k in range(many))))

    def place(self, at, value):
        """Scripts that have this value at the place of a stretch, alone and among others."""
        stretch = [1, 0, 1]
        stretch[at] = value
        stretch = tuple(stretch)
        return (0, (stretch,)), (0, ((1, 0, 1), stretch)), (0, (stretch, (1, 0, 1)))

    def test_numbers_of_a_stretch(self):
        rights = ((0, (1, 2, 99, 100)), (1, (0, 1, 999999, 1000000)), (2, (1, 2, 9998, 9999)))
        for at, values in rights:
            for value in values:
                for script in self.place(at, value):
                    self.right(script)
        wrongs = ((0, (0, -1, 101, 2 ** 70)), (1, (-1, 1000001, 2 ** 70)), (2, (0, -1, 10001, 2 ** 70)))
        for at, values in wrongs:
            for value in values + NO_NUMBERS:
                for script in self.place(at, value):
                    self.wrong(script)

    def test_steps_in_all(self):
        self.right((0, ((1, 0, 10000),)))
        self.right((0, ((1, 0, 5000), (1, 0, 5000))))
        self.right((0, ((1, 0, 9999), (2, 0, 1))))
        self.right((0, ((1, 0, 20),) * 500))
        self.wrong((0, ((1, 0, 10001),)))
        self.wrong((0, ((1, 0, 5000), (1, 0, 5001))))
        self.wrong((0, ((1, 0, 10000), (2, 0, 1))))
        self.wrong((0, ((1, 0, 20),) * 499 + ((1, 0, 21),)))
        self.wrong((0, ((1, 0, 10001), (1, 0, -1))))

    def test_tuples_too_short_and_too_long(self):
        for value in ((), (0,), (0, (), ()), (0, (), None), ((), 0), (0, ((1, 0, 1),), ((1, 0, 1),))):
            self.wrong(value)
        for stretch in ((), (1,), (1, 0), (1, 0, 1, 1), ((1, 0), 1), ((1, 0, 1),)):
            self.wrong((0, (stretch,)))
            self.wrong((0, ((1, 0, 1), stretch)))
        self.wrong((0, (1, 0, 1)))

    def test_lists_and_other_kinds_in_the_place_of_tuples(self):
        self.wrong([0, ()])
        self.wrong((0, []))
        self.wrong((0, [(1, 0, 1)]))
        self.wrong((0, ([1, 0, 1],)))
        self.wrong((0, ((1, 0, 1), [1, 0, 1])))
        for value in NO_TUPLES:
            self.wrong(value)
            self.wrong((0, (value,)))
            self.wrong((0, ((1, 0, 1), value)))
            if value != ():
                self.wrong((0, value))

    def test_scripts_are_not_modified(self):
        value = (7, ((1, 0, 2), (1, 0, 3)))
        check_script(value)
        self.assertEqual(value, (7, ((1, 0, 2), (1, 0, 3))))
        value = [7, [[1, 0, 2]]]
        self.wrong(value)
        self.assertEqual(value, [7, [[1, 0, 2]]])
