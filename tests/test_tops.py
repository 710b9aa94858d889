"""Tests of rankeffect.tops: ranks from the top and medians on lists of a given length."""

import itertools
import random
import unittest

from tests.drawing import shifted_sequence
from tests.odd_objects import HUGE, NO_INTEGERS, NOTHING_USUAL, Greedy, Loud
from tests.raising import check_raises
from rankeffect.effects import Effect
from rankeffect.errors import InvalidNumber, InvalidStep, StepFailed
from rankeffect.sequences import Sequence
from rankeffect.tops import resolved

LONG = 10 ** 89  # a number with 90 digits
MEDIAN = ("median",)
INSERT = ("insert", 5)
NO_NUMBERS = [*NO_INTEGERS, Sequence(), Effect.nothing()]
NO_RANKS = [*NO_NUMBERS, 0, -1, -HUGE]
NO_COUNTS = [*NO_NUMBERS, -1, -HUGE]
NO_STEPS = [
    *NO_NUMBERS, 0, 1, (), (1,), ["median"], "median", ("median", 1), ("median", None), ("median", 1, 2), ("Median",),
    ("medians",), ("",), (None,), (True,), (["median"],), (("median",),), (b"median",), "top", ("top",), ("top", 0),
    ("top", True), ("top", False), ("top", -1), ("top", 1.0), ("top", "1"), ("top", 1, 1), ["top", 1], ("Top", 1),
    ("top ", 1), (1, "top"), (b"top", 1), ("insert",), ("insert", True), ("insert", None), ("insert", 1, 2),
    ["insert", 1], ("remove",), ("remove", 0), ("remove", True), ("remove", -1), ("remove", 1, 2), ["remove", 1],
    "remove", "insert", ("bottom", 1), ("", 1), (None, 1), (Loud(),), (Greedy(),), (Loud(), 1), (Greedy(), 1),
    ("top", Loud()), ("top", Greedy()), (Loud(), Loud(), Loud()), Sequence(INSERT),
    *[("top", rank) for rank in NO_RANKS], *[("remove", rank) for rank in NO_RANKS],
    *[("insert", number) for number in NO_NUMBERS],
]
NO_LISTS = [*NOTHING_USUAL, 0, 1, "", "top", ("x" for _ in "x"), iter([]), {("top", 1): 1}, {MEDIAN}, Sequence(INSERT),
            Effect.nothing()]


def done(numbers, steps):
    """The list after the steps, done from either end, or the index of the step that fails."""
    numbers = sorted(numbers)
    for index, step in enumerate(steps):
        size = len(numbers)
        if step[0] == "insert":
            numbers = sorted([*numbers, step[1]])
        elif step[0] == "median":
            if size == 0:
                return index
            # The middle one, or the lower one of both middle ones.
            del numbers[(size - 1) // 2]
        elif step[1] > size:
            return index
        elif step[0] == "remove":
            del numbers[step[1] - 1]
        else:
            del numbers[-step[1]]
    return numbers


def drawn_steps(chance, most):
    choices = [MEDIAN, MEDIAN, *[("top", rank) for rank in (1, 1, 2, 3, 5, 9)],
               *[("remove", rank) for rank in (1, 2, 4, 8)], *[("insert", number) for number in (-4, 0, 3, 3, 8, 99)]]
    return [chance.choice(choices) for _ in range(chance.randint(0, most))]


class AgainstDoingTheStepsTest(unittest.TestCase):
    def check_steps(self, numbers, steps):
        wanted = done(numbers, steps)
        if type(wanted) is int:
            check_raises(self, StepFailed, wanted, resolved, len(numbers), steps)
            check_raises(self, StepFailed, wanted, resolved, len(numbers), tuple(steps))
            return
        found = resolved(len(numbers), steps)
        self.assertIs(type(found), Sequence)
        self.assertEqual(found(numbers), wanted)
        self.assertEqual(resolved(len(numbers), tuple(steps)), found)
        self.assertEqual(len(found), len(steps))
        for step, ordinary in zip(steps, found.steps):
            if step[0] in ("insert", "remove"):
                self.assertEqual(ordinary, step)
            else:
                self.assertEqual(ordinary[0], "remove")

    def test_drawn_steps(self):
        chance = random.Random(1101)
        for length in range(13):
            for _ in range(60):
                numbers = [chance.randint(-9, 12) for _ in range(length)]
                self.check_steps(numbers, drawn_steps(chance, 10))

    def test_all_short_ones(self):
        choices = [MEDIAN, ("top", 1), ("top", 2), ("remove", 2), ("insert", 4)]
        for length, many in itertools.product(range(6), range(4)):
            for steps in itertools.product(choices, repeat=many):
                self.check_steps(list(range(0, 3 * length, 3)), list(steps))

    def test_the_same_sequence_for_all_lists_of_the_length(self):
        chance = random.Random(1102)
        for _ in range(40):
            steps = drawn_steps(chance, 8)
            length = chance.randint(8, 12)
            lists = [[chance.randint(-9, 12) for _ in range(length)] for _ in range(12)]
            if type(done(lists[0], steps)) is list:
                found = resolved(length, steps)
                self.assertEqual([found(numbers) for numbers in lists], [done(numbers, steps) for numbers in lists])


class RankTest(unittest.TestCase):
    def test_from_the_top(self):
        for length in (1, 2, 7, LONG, HUGE):
            for rank in {1, length, (length + 1) // 2}:
                self.assertEqual(resolved(length, [("top", rank)]).steps, (("remove", length + 1 - rank),))
            check_raises(self, StepFailed, 0, resolved, length, [("top", length + 1)])
            check_raises(self, StepFailed, 0, resolved, length, [("remove", length + 1)])
            self.assertEqual(resolved(length, [("remove", length)]).steps, (("remove", length),))

    def test_medians(self):
        wanted = {1: 1, 2: 1, 3: 2, 4: 2, 5: 3, 6: 3, LONG: LONG // 2, LONG + 1: LONG // 2 + 1}
        for length, rank in wanted.items():
            self.assertEqual(resolved(length, [MEDIAN]).steps, (("remove", rank),))
        check_raises(self, StepFailed, 0, resolved, 0, [MEDIAN])
        check_raises(self, StepFailed, 2, resolved, 2, [MEDIAN, MEDIAN, MEDIAN])

    def test_long_lengths(self):
        steps = [("top", LONG), INSERT, MEDIAN, ("remove", 3 * LONG - 1), ("top", 1), INSERT, INSERT, ("top", 2)]
        found = resolved(3 * LONG, steps)
        self.assertEqual(found.steps, (("remove", 2 * LONG + 1), INSERT, ("remove", 3 * LONG // 2),
                                       ("remove", 3 * LONG - 1), ("remove", 3 * LONG - 2), INSERT, INSERT,
                                       ("remove", 3 * LONG - 2)))
        check_raises(self, StepFailed, 1, resolved, LONG, [MEDIAN, ("top", LONG)])
        self.assertEqual(resolved(LONG, [MEDIAN, ("top", LONG - 1)]).steps, (("remove", LONG // 2), ("remove", 1)))

    def test_the_length_at_that_moment(self):
        self.assertEqual(resolved(0, [INSERT, INSERT, ("top", 1), ("top", 1)]).steps,
                         (INSERT, INSERT, ("remove", 2), ("remove", 1)))
        self.assertEqual(resolved(4, [("remove", 1), ("top", 1), ("top", 1)]).steps,
                         (("remove", 1), ("remove", 3), ("remove", 2)))

    def test_no_steps(self):
        for length in (0, 5, HUGE):
            self.assertEqual(resolved(length, []), Sequence())
            self.assertEqual(resolved(length, ()), Sequence())

    def test_many_steps(self):
        steps = [MEDIAN, ("top", 3)] * 100
        self.assertEqual(resolved(202, steps)(list(range(202))), done(range(202), steps))
        check_raises(self, StepFailed, 199, resolved, 201, steps)


class ErrorTest(unittest.TestCase):
    def test_lengths_come_first(self):
        for value in NO_COUNTS:
            for steps in ([], [MEDIAN], [("top", 0)], None, "x", [("top", 999)], value):
                check_raises(self, InvalidNumber, value, resolved, value, steps)

    def test_lists_of_steps(self):
        for length, value in itertools.product((0, 5, HUGE), NO_LISTS):
            check_raises(self, InvalidStep, value, resolved, length, value)

    def test_steps(self):
        for step in NO_STEPS:
            for steps in ([step], (step,), [INSERT, step], [INSERT, MEDIAN, step, ("top", 0)], (("top", 1), step)):
                check_raises(self, InvalidStep, step, resolved, 5, steps)

    def test_the_first_wrong_step(self):
        first, second = ["median"], ("top", [])
        check_raises(self, InvalidStep, first, resolved, 5, [INSERT, first, second])
        check_raises(self, InvalidStep, second, resolved, 5, [second, first])

    def test_all_steps_are_looked_at_before_the_first_one_is_done(self):
        wrong = ("top", [])
        for failing in (MEDIAN, ("top", 1), ("remove", 1), ("remove", HUGE)):
            check_raises(self, InvalidStep, wrong, resolved, 0, [failing, wrong])
            check_raises(self, InvalidStep, wrong, resolved, 0, (failing, failing, INSERT, wrong))
            check_raises(self, StepFailed, 0, resolved, 0, [failing, failing, INSERT])

    def test_the_first_failing_step(self):
        check_raises(self, StepFailed, 1, resolved, 1, [MEDIAN, ("top", 1), MEDIAN])
        check_raises(self, StepFailed, 2, resolved, 3, [MEDIAN, INSERT, ("top", 4), ("remove", 9)])
        check_raises(self, StepFailed, 2, resolved, 3, [MEDIAN, INSERT, ("remove", 4), ("top", 9)])

    def test_ordinary_words_with_other_contents(self):
        self.assertEqual(resolved(3, [("insert", 0), ("insert", -7), ("remove", 5)]).steps,
                         (("insert", 0), ("insert", -7), ("remove", 5)))


class FormTest(unittest.TestCase):
    def test_by_name(self):
        self.assertEqual(resolved(steps=[("top", 1)], length=4), Sequence(("remove", 4)))

    def test_nothing_changes(self):
        steps = [("top", 1), INSERT, MEDIAN]
        found = resolved(4, steps)
        self.assertEqual(steps, [("top", 1), INSERT, MEDIAN])
        steps.clear()
        self.assertEqual(found.steps, (("remove", 4), INSERT, ("remove", 2)))
        self.assertIsNot(resolved(4, ()), resolved(4, ()))

    def test_shifted_numbers(self):
        steps = [("top", 2), ("insert", 3), MEDIAN, ("insert", -8), ("remove", 1)]
        other = [("top", 2), ("insert", 13), MEDIAN, ("insert", 2), ("remove", 1)]
        self.assertEqual(resolved(7, other), shifted_sequence(resolved(7, steps), 10))

    def test_example(self):
        self.assertEqual(resolved(3, [("top", 1), ("insert", 4), ("median",)]).steps,
                         (("remove", 3), ("insert", 4), ("remove", 2)))


if __name__ == "__main__":
    unittest.main()
