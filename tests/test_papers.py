"""Points 13 to 15: papers that show how many registers are enough."""

import unittest

from tests.plain import cut, dice_of, fewest_registers, plain_needs, some_script
from tests.plain_plans import greatest_shown, plain_shown, plain_shows_enough
from trialcopies.needs import rebuild_needs
from trialcopies.papers import explain_registers, judge_registers
from trialcopies.plans import rebuild_plan

SCRIPTS = ((0, ((1, 0, 6),)), (0, ((1, 0, 3), (3, 0, 2))), (5, ()))
FOUR = tuple((0, ((9, 0, 2), (a, 0, 1), (b, 0, 1))) for a in (1, 2) for b in (1, 2))
FOUR_TREE = ("fork", 2, ("fork", 3, ("leaf", 0), ("leaf", 1)), ("fork", 3, ("leaf", 2), ("leaf", 3)))


class Nasty:
    """An object whose methods raise errors."""

    def __eq__(self, other):
        raise RuntimeError("no comparison")

    def __hash__(self):
        raise RuntimeError("no hash")

    def __len__(self):
        raise RuntimeError("no length")

    def __bool__(self):
        raise RuntimeError("no truth")

    def __iter__(self):
        raise RuntimeError("no iteration")


class NastyTuple(tuple):
    def __iter__(self):
        raise RuntimeError("no iteration")

    def __len__(self):
        raise RuntimeError("no length")

    def __getitem__(self, at):
        raise RuntimeError("no items")


class NastyText(str):
    def __eq__(self, other):
        raise RuntimeError("no comparison")

    __hash__ = str.__hash__


class NastyNumber(int):
    def __le__(self, other):
        raise RuntimeError("no comparison")

    __ge__ = __lt__ = __gt__ = __le__


VALUES = (
    None, True, False, 0, 1, -1, 99, 10 ** 400, 1.5, float("nan"), 1j, "", "plan", "forks", "leaf", "xy", b"", b"plan",
    (), (None,), ("plan",), ("leaf",), ("leaf", 0), ("leaf", 0, 0), ("fork",), [], ["plan", ()], {}, {"plan": 1},
    {1, 2}, frozenset(), range(2), object(), int, len, iter(()), Nasty(), NastyTuple(("plan", ())),
    NastyText("plan"), NastyNumber(1), (Nasty(), Nasty()), ("plan", ()), ("forks", ("leaf", 0)))


def changed(value):
    """All papers that differ from this one at one place, by the kinds of values that may stand there."""
    if isinstance(value, tuple):
        for at in range(len(value)):
            for other in changed(value[at]):
                yield value[:at] + (other,) + value[at + 1:]
            yield value[:at] + value[at + 1:]
            yield value[:at] + (value[at],) + value[at:]
        yield value + (None,)
        yield list(value)
    elif isinstance(value, str):
        yield from (value + " ", value.upper(), None, 0, "plan" if value != "plan" else "forks")
    else:
        yield from (value + 1, value - 1, str(value), None, float(value), value + 1000, -value - 1)
        if value in (0, 1):
            yield bool(value)


class JudgePlansTest(unittest.TestCase):
    def test_taken(self):
        for registers in (2, 3, 100):
            self.assertIs(judge_registers(SCRIPTS, registers, ("plan", rebuild_plan(SCRIPTS))), True)
        self.assertIs(judge_registers(FOUR, 3, ("plan", rebuild_plan(FOUR))), True)
        self.assertIs(judge_registers(((5, ()),), 1, ("plan", (("found", 99, 5), ("deliver", 99, 0)))), True)

    def test_too_few_registers(self):
        self.assertIs(judge_registers(SCRIPTS, 1, ("plan", rebuild_plan(SCRIPTS))), False)
        self.assertIs(judge_registers(FOUR, 2, ("plan", rebuild_plan(FOUR))), False)

    def test_another_plan_than_that_of_the_maker(self):
        plan = (("found", 7, 5), ("deliver", 7, 2), ("found", 3, 0), ("train", 3, 1, 0, 1), ("train", 3, 1, 0, 2),
                ("copy", 3, 99), ("free", 3), ("copy", 99, 3), ("train", 99, 3, 0, 1), ("train", 99, 3, 0, 1),
                ("deliver", 99, 1), ("train", 3, 1, 0, 3), ("free", 99), ("found", 50, 1000000), ("deliver", 3, 0))
        for registers in range(1, 101):
            self.assertIs(judge_registers(SCRIPTS, registers, ("plan", plan)), registers >= 3)

    def test_trainings_may_have_other_parts_than_stretches(self):
        scripts = ((0, ((1, 0, 2), (1, 0, 3), (2, 0, 2))),)
        for parts in ((1, 1, 1, 1, 1), (5,), (4, 1), (2, 3)):
            plan = (("found", 0, 0),) + tuple(("train", 0, 1, 0, n) for n in parts) + (
                ("train", 0, 2, 0, 2), ("deliver", 0, 0))
            self.assertIs(judge_registers(scripts, 1, ("plan", plan)), True)

    def refused(self, scripts, plan, registers=100):
        self.assertIs(judge_registers(scripts, registers, ("plan", plan)), False)

    def test_it_cannot_be_carried_out(self):
        scripts = ((0, ((1, 0, 1),)),)
        end = (("train", 0, 1, 0, 1), ("deliver", 0, 0))
        self.assertIs(judge_registers(scripts, 1, ("plan", (("found", 0, 0),) + end)), True)
        self.refused(scripts, end)
        self.refused(scripts, (("found", 0, 0), ("found", 0, 0)) + end)
        self.refused(scripts, (("found", 0, 0), ("copy", 0, 0)) + end)
        self.refused(scripts, (("found", 0, 0), ("copy", 1, 2)) + end)
        self.refused(scripts, (("found", 0, 0), ("free", 1)) + end)
        self.refused(scripts, (("found", 0, 0),) + end + (("free", 0), ("free", 0)))

    def test_deliveries(self):
        scripts = ((0, ((1, 0, 1),)), (0, ((1, 0, 1),)), (0, ()))
        start, train = ("found", 0, 0), ("train", 0, 1, 0, 1)
        none, first, second = ("deliver", 0, 2), ("deliver", 0, 0), ("deliver", 0, 1)
        self.assertIs(judge_registers(scripts, 1, ("plan", (start, none, train, second, first))), True)
        self.refused(scripts, (start, none, train, first))
        self.refused(scripts, (start, train, first, second))
        self.refused(scripts, (start, none, train, first, second, first))
        self.refused(scripts, (start, none, train, first, first))
        self.refused(scripts, (start, none, train, first, second, ("deliver", 0, 3)))
        self.refused(scripts, (start, none, train, first, second, ("deliver", 0, -1)))
        self.refused(scripts, (start, first, none, train, second))
        self.refused(scripts, (start, train, none, first, second))

    def test_the_seed_is_that_of_the_script(self):
        self.refused(((1, ()),), (("found", 0, 0), ("deliver", 0, 0)))
        self.refused(((1, ((1, 0, 1),)),), (("found", 0, 0), ("train", 0, 1, 0, 1), ("deliver", 0, 0)))

    def test_just_as_many_steps_as_are_needed(self):
        scripts = ((0, ((1, 0, 2),)),)
        right = (("found", 0, 0), ("train", 0, 1, 0, 2), ("deliver", 0, 0))
        self.assertIs(judge_registers(scripts, 2, ("plan", right)), True)
        self.refused(scripts, right + (("train", 0, 1, 0, 1),))
        self.refused(scripts, right + (("found", 1, 0), ("train", 1, 1, 0, 2)))
        twice = ((0, ((1, 0, 2),)), (0, ((1, 0, 2), (2, 0, 1))))
        self.refused(twice, right + (("found", 1, 0), ("train", 1, 1, 0, 2), ("train", 1, 2, 0, 1), ("deliver", 1, 1)))

    def test_trainings_without_steps_are_none(self):
        scripts = ((0, ((1, 0, 2),)),)
        self.refused(scripts, (("found", 0, 0), ("train", 0, 1, 0, 2), ("train", 0, 1, 0, 0), ("deliver", 0, 0)))
        self.refused(scripts, (("found", 0, 0), ("train", 0, 1, 0, 3), ("train", 0, 1, 0, -1), ("deliver", 0, 0)))

    def test_numbers_out_of_range(self):
        scripts = ((0, ((1, 0, 2),)),)
        right = (("found", 0, 0), ("train", 0, 1, 0, 2), ("deliver", 0, 0))
        for row in (("found", 100, 0), ("found", -1, 0), ("found", 1, -1), ("found", 1, 1000001), ("copy", 0, 100),
                    ("copy", 0, -1)):
            self.refused(scripts, right + (row,))
        for row in (("found", 99, 1000000), ("found", 1, 0), ("copy", 0, 99)):
            self.assertIs(judge_registers(scripts, 2, ("plan", right + (row,))), True)

    def test_true_and_false_are_no_numbers(self):
        scripts = ((1, ((1, 0, 1),)), (1, ((1, 0, 1),)))
        right = (("found", 0, 1), ("train", 0, 1, 0, 1), ("deliver", 0, 0), ("deliver", 0, 1), ("copy", 0, 1),
                 ("free", 0))
        self.assertIs(judge_registers(scripts, 2, ("plan", right)), True)
        for at, row in enumerate(right):
            for k in range(1, len(row)):
                other = row[:k] + (bool(row[k]),) + row[k + 1:]
                self.assertEqual(other, row)
                self.refused(scripts, right[:at] + (other,) + right[at + 1:])

    def test_long_plans(self):
        scripts = ((0, ((1, 0, 10000),)), (1, ()))
        plan = (("found", 1, 1), ("deliver", 1, 1), ("found", 0, 0))
        plan += (("train", 0, 1, 0, 1), ("copy", 0, 2), ("free", 0), ("copy", 2, 0), ("free", 2)) * 10000
        self.assertIs(judge_registers(scripts, 3, ("plan", plan + (("deliver", 0, 0),))), True)
        self.assertIs(judge_registers(scripts, 2, ("plan", plan + (("deliver", 0, 0),))), False)
        self.refused(scripts, plan)
        self.refused(scripts, (("found", 0, 0),) + (("train", 0, 1, 0, 1), ("train", 0, 2, 0, 1)) * 50000)
        self.refused(scripts, (("found", 0, 0), ("train", 0, 1, 0, 10 ** 300), ("deliver", 0, 0)))

    def test_more_than_10000_steps(self):
        # Beyond the limits for scripts: a judge has none for the steps of states.
        scripts = ((0, ((1, 0, 9000), (2, 0, 2000))), (0, ((1, 0, 10001),)))
        for registers in (1, 2):
            paper = explain_registers(scripts, registers)
            self.assertEqual(paper[0], "plan" if registers == 2 else "forks")
            self.assertIs(judge_registers(scripts, registers, paper), True)

    def test_each_changed_place_against_the_words(self):
        dice = dice_of(30)
        taken = refused = 0
        for _ in range(12):
            scripts = tuple(some_script(dice, stretches=3) for _ in range(dice.randint(1, 5)))
            plan = rebuild_plan(scripts)
            for other in changed(plan):
                if not rightly_made(other):
                    self.refused(scripts, other)
                    continue
                for registers in (1, 2, 3):
                    told = plain_shows_enough(scripts, registers, other)
                    taken, refused = taken + told, refused + (not told)
                    self.assertIs(judge_registers(scripts, registers, ("plan", other)), told)
        self.assertGreater(taken, 20)
        self.assertGreater(refused, 200)

    def test_shuffled_plans_against_the_words(self):
        dice = dice_of(31)
        taken = 0
        for _ in range(300):
            scripts = tuple(some_script(dice, stretches=2, steps=2) for _ in range(dice.randint(1, 3)))
            rows = list(rebuild_plan(scripts))
            for _ in range(dice.randint(1, 3)):
                at = dice.randrange(len(rows))
                rows.insert(dice.randrange(len(rows)), rows.pop(at))
            told = plain_shows_enough(scripts, 2, tuple(rows))
            taken += told
            self.assertIs(judge_registers(scripts, 2, ("plan", tuple(rows))), told)
        self.assertGreater(taken, 10)


def rightly_made(plan):
    """Whether this is a tuple of instructions of right names, lengths and numbers."""
    lengths = {"found": 3, "copy": 3, "train": 5, "deliver": 3, "free": 2}
    if type(plan) is not tuple:
        return False
    for row in plan:
        if type(row) is not tuple or not row or type(row[0]) is not str or lengths.get(row[0]) != len(row):
            return False
        if any(type(n) is not int for n in row[1:]) or not 0 <= row[1] <= 99:
            return False
        if row[0] == "copy" and not 0 <= row[2] <= 99 or row[0] == "found" and not 0 <= row[2] <= 1000000:
            return False
        if row[0] == "train" and not 1 <= row[4] <= 10000:
            return False
    return True


class JudgeForksTest(unittest.TestCase):
    def takes(self, scripts, tree, level):
        """The tree shows just this level, which is taken for each lesser number of registers."""
        for registers in range(1, 8):
            self.assertIs(judge_registers(scripts, registers, ("forks", tree)), registers < level)

    def refused(self, scripts, tree):
        # Also for a number below the limits, so that a leaf would be enough.
        for registers in (0, 1, 2):
            self.assertIs(judge_registers(scripts, registers, ("forks", tree)), False)

    def test_forks(self):
        self.takes(FOUR, FOUR_TREE, 3)
        self.takes(FOUR, FOUR_TREE[:2] + (FOUR_TREE[3], FOUR_TREE[2]), 3)
        self.takes(FOUR, FOUR_TREE[2], 2)
        self.takes(FOUR, ("fork", 2, ("leaf", 0), ("leaf", 2)), 2)
        self.takes(FOUR, ("fork", 2, FOUR_TREE[2], ("leaf", 2)), 2)
        self.takes(FOUR, ("fork", 2, ("leaf", 3), FOUR_TREE[2]), 2)

    def test_leaves(self):
        self.takes(SCRIPTS, ("leaf", 0), 1)
        self.assertIs(judge_registers(SCRIPTS, 0, ("forks", ("leaf", 0))), True)
        self.assertIs(judge_registers(((0, ((1, 0, 1),)),), 0, ("forks", ("leaf", 0))), True)
        for index in (-1, -4, 4):
            self.refused(FOUR, ("leaf", index))
            self.refused(FOUR, ("fork", 2, ("leaf", 0), ("leaf", index)))
        for index in (2, 3, -1, -3, 10 ** 100):
            self.refused(SCRIPTS, ("leaf", index))
            self.refused(SCRIPTS, ("fork", 3, ("leaf", index), ("leaf", 1)))
            self.refused(SCRIPTS, ("fork", 3, ("leaf", 0), ("leaf", index)))

    def test_positions(self):
        for position in range(-2, 9):
            tree = ("fork", position, ("leaf", 0), ("leaf", 1))
            if position == 3:
                self.takes(SCRIPTS, tree, 2)
            else:
                self.refused(SCRIPTS, tree)

    def test_at_least_one_step_in_common(self):
        scripts = ((0, ((1, 0, 2),)), (0, ((2, 0, 2),)), (1, ((1, 0, 2),)))
        for left, right in ((0, 1), (0, 2), (1, 2)):
            for position in (0, 1, 2):
                self.refused(scripts, ("fork", position, ("leaf", left), ("leaf", right)))

    def test_they_go_on_behind_the_position(self):
        scripts = ((0, ((1, 0, 2),)), (0, ((1, 0, 2), (2, 0, 1))), (0, ((1, 0, 3),)))
        for position in (1, 2, 3):
            self.refused(scripts, ("fork", position, ("leaf", 0), ("leaf", 1)))
            self.refused(scripts, ("fork", position, ("leaf", 2), ("leaf", 0)))
        self.takes(scripts, ("fork", 2, ("leaf", 1), ("leaf", 2)), 2)

    def test_the_same_script_on_both_sides(self):
        scripts = ((0, ((1, 0, 4),)), (0, ((1, 0, 2), (1, 0, 2))))
        for position in range(6):
            self.refused(scripts, ("fork", position, ("leaf", 0), ("leaf", 0)))
            self.refused(scripts, ("fork", position, ("leaf", 0), ("leaf", 1)))

    def test_those_of_one_side_have_their_next_step_in_common(self):
        for upper in (1, 2, 3):
            for lower in (1, 2, 3):
                for left in ((0, 1), (0, 2), (2, 3), (1, 3)):
                    tree = ("fork", upper, ("fork", lower, ("leaf", left[0]), ("leaf", left[1])), ("leaf", 3 - left[0]))
                    self.assertEqual(judge_registers(FOUR, 1, ("forks", tree)), plain_shown(FOUR, tree) == 2)
        self.refused(FOUR, ("fork", 2, ("fork", 2, ("leaf", 0), ("leaf", 2)), ("leaf", 3)))
        self.refused(FOUR, ("fork", 3, ("fork", 2, ("leaf", 0), ("leaf", 2)), ("leaf", 1)))

    def test_levels_of_both_sides(self):
        deep = tuple((0, ((9, 0, 1), (5, 0, 1)) + stretches[1:]) for _, stretches in FOUR)
        scripts = deep + ((0, ((9, 0, 1), (6, 0, 1), (1, 0, 1))), (0, ((9, 0, 1), (6, 0, 1), (2, 0, 1))))
        inner = ("fork", 2, ("fork", 3, ("leaf", 0), ("leaf", 1)), ("fork", 3, ("leaf", 2), ("leaf", 3)))
        self.takes(scripts, inner, 3)
        self.takes(scripts, ("fork", 1, inner, ("fork", 2, ("leaf", 4), ("leaf", 5))), 3)
        self.takes(scripts, ("fork", 1, ("leaf", 4), inner), 3)

    def test_true_and_false_are_no_numbers(self):
        scripts = ((0, ((1, 0, 1), (1, 0, 1))), (0, ((1, 0, 1), (2, 0, 1))))
        self.takes(scripts, ("fork", 1, ("leaf", 0), ("leaf", 1)), 2)
        self.refused(scripts, ("fork", True, ("leaf", 0), ("leaf", 1)))
        self.refused(scripts, ("fork", 1, ("leaf", False), ("leaf", 1)))
        self.refused(scripts, ("fork", 1, ("leaf", 0), ("leaf", True)))
        self.refused(scripts, ("leaf", False))

    def test_each_changed_place(self):
        for tree in changed(FOUR_TREE):
            told = None
            if well_formed(tree):
                told = plain_shown(FOUR, tree)
            self.assertIs(judge_registers(FOUR, 2, ("forks", tree)), told == 3)

    def test_trees_that_are_too_deep(self):
        tree = ("leaf", 0)
        for _ in range(100000):
            tree = ("fork", 1, tree, ("leaf", 1))
        self.refused(FOUR, tree)
        tree = ("leaf", 0)
        for _ in range(100000):
            tree = ("fork", 1, ("leaf", 1), tree)
        self.refused(FOUR, tree)
        tree = ("leaf", 0)
        for _ in range(200):
            tree = ("fork", 1, tree, tree)
        self.refused(FOUR, tree)

    def test_the_deepest_trees(self):
        scripts = tuple((0, ((1, 0, k), (2, 0, 1))) for k in range(1, 21))
        tree = ("leaf", 19)
        for k in range(18, -1, -1):
            tree = ("fork", k + 1, ("leaf", k), tree)
        self.takes(scripts, tree, 2)
        tree = ("leaf", 19)
        for k in range(18, -1, -1):
            tree = ("fork", k + 1, tree, ("leaf", k))
        self.takes(scripts, tree, 2)

    def test_some_trees_against_the_words(self):
        dice = dice_of(32)
        seen = {}
        for _ in range(4000):
            scripts = tuple((0, ((9, 0, 1), (dice.choice((1, 2)), 0, 1), (dice.choice((1, 2)), 0, 1)))
                            for _ in range(dice.randint(2, 5)))
            tree = some_tree(dice, len(scripts), 1, 2)
            told = plain_shown(scripts, tree)
            seen[told] = seen.get(told, 0) + 1
            for registers in (0, 1, 2, 3):
                self.assertIs(judge_registers(scripts, registers, ("forks", tree)),
                              told is not None and told > registers)
        self.assertGreater(min(seen[1], seen[2], seen[None]), 50)


def well_formed(tree):
    """Whether this is a tree by the kinds of its values."""
    if type(tree) is not tuple or not tree:
        return False
    if tree[0] == "leaf":
        return len(tree) == 2 and type(tree[1]) is int
    return (tree[0] == "fork" and len(tree) == 4 and type(tree[1]) is int
            and well_formed(tree[2]) and well_formed(tree[3]))


def some_tree(dice, many, position, forks):
    """A tree whose positions often grow with its forks."""
    if forks == 0 or dice.random() < 0.4:
        return ("leaf", dice.randrange(many))
    at = position + dice.choice((0, 0, 0, 1, 1, 2)) - (dice.random() < 0.05)
    return ("fork", at, some_tree(dice, many, at + 1, forks - 1), some_tree(dice, many, at + 1, forks - 1))


class JudgeAnythingTest(unittest.TestCase):
    def test_values_that_are_no_papers(self):
        for value in VALUES:
            # One register is not enough for these scripts, and no leaf shows two levels.
            self.assertIs(judge_registers(SCRIPTS, 1, value), False)
            for paper in (("plan", value), ("forks", value), (value, ()), (value, rebuild_plan(SCRIPTS)),
                          (value, FOUR_TREE), ("plan", value, value), (value,), ("plan", (value,)),
                          ("forks", ("leaf", value)), ("forks", ("fork", 3, ("leaf", 0), value)),
                          ("forks", ("fork", 3, value, ("leaf", 0))), ("forks", (value, 3, 3, 3)),
                          ("forks", ("fork", value, ("leaf", 0), ("leaf", 1))), ("forks", (value, 0))):
                self.assertIs(judge_registers(SCRIPTS, 1, paper), False)

    def test_values_in_the_place_of_an_instruction(self):
        plan = rebuild_plan(SCRIPTS)
        self.assertIs(judge_registers(SCRIPTS, 2, ("plan", plan)), True)
        for value in VALUES:
            for at in range(len(plan) + 1):
                self.assertIs(judge_registers(SCRIPTS, 2, ("plan", plan[:at] + (value,) + plan[at:])), False)
                self.assertIs(judge_registers(SCRIPTS, 2, ("plan", plan[:at] + ((value,),) + plan[at:])), False)

    def test_values_in_the_place_of_numbers_and_names(self):
        plan = rebuild_plan(SCRIPTS)
        for value in VALUES:
            if type(value) is int:
                continue
            for at, row in enumerate(plan):
                for k in range(len(row)):
                    other = row[:k] + (value,) + row[k + 1:]
                    self.assertIs(judge_registers(SCRIPTS, 2, ("plan", plan[:at] + (other,) + plan[at + 1:])), False)

    def test_lists_are_no_tuples(self):
        plan = rebuild_plan(SCRIPTS)
        for paper in (["plan", plan], ("plan", list(plan)), ("plan", tuple(list(row) for row in plan)),
                      ("plan", plan[:3] + (list(plan[3]),) + plan[4:])):
            self.assertIs(judge_registers(SCRIPTS, 2, paper), False)
        for paper in (["forks", FOUR_TREE], ("forks", list(FOUR_TREE)),
                      ("forks", FOUR_TREE[:2] + (list(FOUR_TREE[2]), FOUR_TREE[3]))):
            self.assertIs(judge_registers(FOUR, 2, paper), False)

    def test_names_of_papers(self):
        plan = rebuild_plan(SCRIPTS)
        for name in ("plans", "Plan", "", "forks", b"plan", ("plan",), None):
            self.assertIs(judge_registers(SCRIPTS, 2, (name, plan)), False)
        for name in ("fork", "Forks", "", "plan", b"forks", ("forks",), None):
            self.assertIs(judge_registers(FOUR, 2, (name, FOUR_TREE)), False)


class ExplainTest(unittest.TestCase):
    def test_papers_that_are_taken(self):
        for scripts, least in ((SCRIPTS, 2), (FOUR, 3), (((5, ()),), 1), (((5, ((1, 0, 10000),)),), 1),
                               (((5, ()),) * 20, 1), (FOUR * 5, 3)):
            for registers in range(1, 101):
                paper = explain_registers(scripts, registers)
                self.assertIsInstance(paper, tuple)
                self.assertEqual(paper[0], "plan" if registers >= least else "forks")
                self.assertIs(judge_registers(scripts, registers, paper), True)

    def test_numbers_somewhat_beyond(self):
        for registers in (-1, 0, 101):
            explain_registers(SCRIPTS, registers)
            explain_registers(((5, ()),), registers)
            explain_registers((), registers)
        self.assertIs(judge_registers(SCRIPTS, 0, explain_registers(SCRIPTS, 0)), True)
        self.assertIs(judge_registers(SCRIPTS, 101, explain_registers(SCRIPTS, 101)), True)

    def test_papers_of_just_one_kind(self):
        dice = dice_of(33)
        seen = set()
        for _ in range(400):
            scripts = tuple(some_script(dice, settings=1, stretches=dice.randint(1, 7), steps=2)
                            for _ in range(dice.randint(1, 12)))
            least = plain_needs(scripts)[1]
            seen.add(least)
            self.assertEqual(max(1, greatest_shown(scripts)), least)
            for registers in range(1, 6):
                for same in (scripts, tuple(cut(script, dice) for script in scripts)):
                    paper = explain_registers(same, registers)
                    self.assertIs(judge_registers(scripts, registers, paper), True)
                    self.assertEqual(paper[0], "plan" if registers >= least else "forks")
            # Where no plan is enough, none is taken; where one is, no tree shows more (above).
            paper = ("plan", rebuild_plan(scripts))
            self.assertIs(judge_registers(scripts, least, paper), True)
            self.assertIs(judge_registers(scripts, least - 1, paper), False)
        self.assertEqual(seen, {1, 2, 3})

    def test_what_is_taken_is_so(self):
        dice = dice_of(34)
        for _ in range(60):
            scripts = tuple(some_script(dice, seeds=1, settings=1, stretches=4, steps=1)
                            for _ in range(dice.randint(1, 5)))
            if plain_needs(scripts)[0] <= 8:
                fewest = fewest_registers(scripts)
                for registers in (1, 2, 3):
                    paper = explain_registers(scripts, registers)
                    self.assertEqual(paper[0] == "plan", registers >= fewest)
                    self.assertIs(judge_registers(scripts, registers, paper), True)

    def test_twenty_long_scripts(self):
        scripts = tuple((0, ((9, 0, 7),) + tuple((1 + (n >> k & 1), 0, 30) for k in range(5))
                         + tuple((1 + k % 2, 0, 20) for k in range(490))) for n in range(20))
        least = rebuild_needs(scripts)[1]
        self.assertGreater(least, 3)
        for registers in (1, least - 1, least, 100):
            self.assertIs(judge_registers(scripts, registers, explain_registers(scripts, registers)), True)

    def test_nothing_is_modified(self):
        scripts = ((0, ((1, 0, 2), (1, 0, 3))), (0, ((1, 0, 4), (2, 0, 1))))
        for registers in (1, 2):
            judge_registers(scripts, registers, explain_registers(scripts, registers))
        self.assertEqual(scripts, ((0, ((1, 0, 2), (1, 0, 3))), (0, ((1, 0, 4), (2, 0, 1)))))
