"""Tests of rankeffect.sequences: steps, sequences, calling them and walking through them."""

import itertools
import unittest

from tests.odd_objects import HUGE, NO_INTEGERS, NOTHING_USUAL, Greedy, Loud
from rankeffect.errors import InvalidList, InvalidStep, RankError, StepFailed
from rankeffect.sequences import Sequence

GOOD_STEPS = [
    ("insert", 0), ("insert", 5), ("insert", -7), ("insert", HUGE), ("insert", -HUGE),
    ("remove", 1), ("remove", 2), ("remove", 500), ("remove", HUGE),
]

def no_steps():
    values = [
        *NO_INTEGERS, 0, 1, -1, "insert", "in", "ab", b"insert", Sequence(), iter(("insert", 5)),
        ["insert", 5], ["remove", 1], {"insert": 5}, {"insert", 5},
        ("insert",), ("remove",), (5,), ("insert", 5, 6), ("remove", 1, 1), ("insert", 5, None), ("insert", (5,)),
        (("insert", 5),), (("insert", 5), ("insert", 5)), (5, "insert"), (1, "remove"),
        ("Insert", 5), ("INSERT", 5), ("insert ", 5), (" insert", 5), ("inserts", 5), ("inser", 5), ("add", 5),
        ("Remove", 1), ("remove ", 1), ("removed", 1), ("", 1), ("top", 1), ("median", 1), ("median",),
        (b"insert", 5), (b"remove", 1), (None, 1), (1, 1), (True, 1), (["insert"], 5), (("insert",), 5),
        (Loud(), 5), (Loud(), Loud()), (Greedy(), 5), ("remove", 0), ("remove", -1), ("remove", -HUGE),
    ]
    values.extend([("insert", number) for number in NO_INTEGERS])
    values.extend([("remove", number) for number in NO_INTEGERS])
    return values


def no_lists():
    values = [
        *NOTHING_USUAL, 0, 5, (number for number in [1]), Sequence(), Sequence(("insert", 1)),
        [[]], [()], [[1]], ((1,),), ([1], [2]), [1, [2]], [("insert", 5)], [1, 2, "3"], (1, None, 2),
    ]
    for wrong in NO_INTEGERS:
        values.extend([[wrong], (wrong,), [1, wrong], (wrong, 2), [3, wrong, 1]])
    return values


def simple_result(numbers, steps):
    """The list after the steps, or the index of the step that fails."""
    numbers = list(numbers)
    numbers.sort()
    for index, (word, number) in enumerate(steps):
        if word == "insert":
            numbers.append(number)
            numbers.sort()
        elif len(numbers) >= number:
            del numbers[number - 1]
        else:
            return index
    return numbers


class StepTest(unittest.TestCase):
    def test_steps(self):
        for step in GOOD_STEPS:
            self.assertIs(Sequence.is_step(step), True, step)

    def test_other_objects_are_no_steps(self):
        for value in no_steps():
            self.assertIs(Sequence.is_step(value), False)

    def test_by_name_and_on_an_object(self):
        self.assertIs(Sequence.is_step(value=("insert", 5)), True)
        self.assertIs(Sequence.is_step(value=5), False)
        self.assertIs(Sequence(("insert", 1)).is_step(("remove", 2)), True)
        self.assertIs(Sequence().is_step(value=("remove", 0)), False)


class ConstructionTest(unittest.TestCase):
    def test_steps_are_kept_in_order(self):
        self.assertEqual(Sequence(*GOOD_STEPS).steps, tuple(GOOD_STEPS))
        self.assertEqual(Sequence().steps, ())
        self.assertIs(type(Sequence().steps), tuple)
        self.assertIs(type(Sequence(*GOOD_STEPS).steps), tuple)
        self.assertEqual(Sequence(("remove", 2), ("insert", 1), ("remove", 2)).steps,
                         (("remove", 2), ("insert", 1), ("remove", 2)))

    def test_length(self):
        self.assertEqual(len(Sequence()), 0)
        for many in (1, 2, 3, 200):
            self.assertEqual(len(Sequence(*[("insert", 4)] * many)), many)

    def test_what_is_no_step_is_refused(self):
        for value in no_steps():
            for arguments in ([value], [("insert", 5), value], [value, ("remove", 1)]):
                with self.assertRaises(InvalidStep) as caught:
                    Sequence(*arguments)
                self.assertIs(caught.exception.value, value)

    def test_first_wrong_argument_is_told(self):
        wrong = ["remove", 1]
        for arguments in ([wrong, None], [("insert", 1), wrong, ("remove", 0)], [("insert", 1), wrong, ["remove", 1]]):
            with self.assertRaises(InvalidStep) as caught:
                Sequence(*arguments)
            self.assertIs(caught.exception.value, wrong)

    def test_a_list_of_steps_is_no_step(self):
        steps = [("insert", 5), ("remove", 1)]
        with self.assertRaises(InvalidStep) as caught:
            Sequence(steps)
        self.assertIs(caught.exception.value, steps)

    def test_later_changes_of_the_given_list(self):
        steps = [("insert", 5), ("remove", 1)]
        sequence = Sequence(*steps)
        steps.append(("insert", 6))
        steps[0] = ("insert", 7)
        self.assertEqual(sequence.steps, (("insert", 5), ("remove", 1)))


class OperatorTest(unittest.TestCase):
    def setUp(self):
        self.first = Sequence(("insert", 5), ("remove", 2))
        self.second = Sequence(("remove", 3))

    def test_sum(self):
        total = self.first + self.second
        self.assertIs(type(total), Sequence)
        self.assertEqual(total.steps, (("insert", 5), ("remove", 2), ("remove", 3)))
        self.assertEqual((self.second + self.first).steps, (("remove", 3), ("insert", 5), ("remove", 2)))
        self.assertEqual(self.first.steps, (("insert", 5), ("remove", 2)))
        self.assertEqual(self.second.steps, (("remove", 3),))
        self.assertEqual((self.first + self.first).steps, self.first.steps * 2)

    def test_sum_with_the_empty_sequence(self):
        for total in (self.first + Sequence(), Sequence() + self.first):
            self.assertEqual(total, self.first)
            self.assertIsNot(total, self.first)
        self.assertEqual((Sequence() + Sequence()).steps, ())

    def test_repeated_sum_leaves_the_old_object(self):
        sequence = old = self.first
        sequence += self.second
        self.assertEqual(old.steps, (("insert", 5), ("remove", 2)))
        self.assertEqual(len(sequence), 3)

    def test_product(self):
        for times in (0, 1, 2, 3, 100, 1000):
            product = self.first * times
            self.assertIs(type(product), Sequence)
            self.assertEqual(product.steps, (("insert", 5), ("remove", 2)) * times)
            self.assertIsNot(product, self.first)
        self.assertEqual(len(self.first * 1000), 2000)
        self.assertEqual(self.first.steps, (("insert", 5), ("remove", 2)))

    def test_product_of_the_empty_sequence(self):
        empty = Sequence()
        for times in (0, 1, 2, 2000, 2001, 2 ** 63, 10 ** 30, HUGE):
            product = empty * times
            self.assertIs(type(product), Sequence)
            self.assertEqual(product.steps, ())
            self.assertIsNot(product, empty)

    def test_product_does_what_repeating_does(self):
        numbers = [9, 2, 7, 4]
        once = self.first(numbers)
        self.assertEqual((self.first * 3)(numbers), self.first(self.first(once)))

    def test_equality(self):
        self.assertIs(self.first == Sequence(("insert", 5), ("remove", 2)), True)
        self.assertIs(self.first != Sequence(("insert", 5), ("remove", 2)), False)
        self.assertIs(Sequence() == Sequence(), True)
        self.assertIs(Sequence() != Sequence(), False)
        self.assertIs(self.first == self.first, True)
        self.assertIs(Sequence(("insert", HUGE)) == Sequence(("insert", 10 ** 100 - 1)), True)

    def test_inequality(self):
        others = [
            Sequence(), Sequence(("insert", 5)), Sequence(("remove", 2)), Sequence(("remove", 2), ("insert", 5)),
            Sequence(("insert", 5), ("remove", 1)), Sequence(("insert", 4), ("remove", 2)),
            Sequence(("remove", 5), ("remove", 2)), Sequence(("insert", 5), ("insert", 2)),
            Sequence(("insert", 5), ("remove", 2), ("insert", 1)),
        ]
        for other in others:
            self.assertIs(self.first == other, False)
            self.assertIs(self.first != other, True)
            self.assertIs(other == self.first, False)

    def test_same_effect_is_not_the_same_sequence(self):
        self.assertNotEqual(Sequence(("insert", 1), ("insert", 2)), Sequence(("insert", 2), ("insert", 1)))
        self.assertNotEqual(Sequence(("remove", 2), ("remove", 1)), Sequence(("remove", 1), ("remove", 1)))

    def test_objects_of_other_classes(self):
        for sequence in (Sequence(), self.first):
            steps = sequence.steps
            others = (steps, list(steps), len(steps), str(steps), None, False, True, 0, {}, set(), object(), Sequence)
            for other in others:
                self.assertIs(sequence == other, False)
                self.assertIs(sequence != other, True)
                self.assertIs(other == sequence, False)


class CallTest(unittest.TestCase):
    def test_lists_and_tuples_in_any_order(self):
        sequence = Sequence(("remove", 2), ("insert", 5))
        for numbers in itertools.permutations([8, 1, 6]):
            self.assertEqual(sequence(numbers), [1, 5, 8])
            self.assertEqual(sequence(list(numbers)), [1, 5, 8])
            self.assertIs(type(sequence(numbers)), list)

    def test_the_empty_sequence_sorts(self):
        for numbers in ([], (), [3], [2, 1], (5, -5, 0), (1, 1, 0, 1)):
            self.assertEqual(Sequence()(numbers), sorted(numbers))

    def test_equal_numbers(self):
        self.assertEqual(Sequence(("insert", 4))([4, 4]), [4, 4, 4])
        self.assertEqual(Sequence(("remove", 2))([4, 4, 1]), [1, 4])
        self.assertEqual(Sequence(("remove", 1))((1, 1, 1)), [1, 1])
        self.assertEqual(Sequence(("insert", 2), ("insert", 2), ("remove", 3))([2, 9, 1]), [1, 2, 2, 9])

    def test_against_single_steps(self):
        steps = [("insert", 0), ("insert", 3), ("remove", 1), ("remove", 2), ("remove", 4)]
        lists = [[], [3], [5, -1], (3, 3, 0), (7, 2, 4, 1)]
        for length in range(4):
            for chosen in itertools.product(steps, repeat=length):
                for numbers in lists:
                    self.check_result(chosen, numbers)

    def check_result(self, steps, numbers):
        expected = simple_result(numbers, steps)
        if isinstance(expected, list):
            self.assertEqual(Sequence(*steps)(numbers), expected)
            return
        with self.assertRaises(StepFailed) as caught:
            Sequence(*steps)(numbers)
        self.assertEqual(caught.exception.index, expected)

    def test_failing_steps(self):
        cases = [
            ([("remove", 1)], [], 0),
            ([("remove", 3)], [1, 2], 0),
            ([("insert", 1), ("remove", 2)], [], 1),
            ([("remove", 1), ("insert", 5), ("remove", 2)], [3], 2),
            ([("remove", 2), ("remove", 2), ("remove", 2)], (1, 2, 3), 2),
            ([("insert", 1), ("remove", HUGE), ("remove", 9)], [4], 1),
        ]
        for steps, numbers, index in cases:
            with self.assertRaises(StepFailed) as caught:
                Sequence(*steps)(numbers)
            self.assertEqual(caught.exception.index, index)
            self.assertIs(type(caught.exception.index), int)

    def test_the_greatest_rank_succeeds(self):
        self.assertEqual(Sequence(("remove", 3))([1, 2, 3]), [1, 2])
        self.assertEqual(Sequence(("remove", 1))([7]), [])
        self.assertEqual(Sequence(("remove", 500))(list(range(500))), list(range(499)))

    def test_long_numbers(self):
        self.assertEqual(Sequence(("insert", HUGE), ("insert", -HUGE))([0]), [-HUGE, 0, HUGE])
        self.assertEqual(Sequence(("remove", 2))([HUGE, HUGE - 1, -HUGE]), [-HUGE, HUGE])

    def test_many_steps(self):
        steps = [("insert", 250 - at) for at in range(100)] + [("remove", 300)] * 100
        numbers = list(range(500))
        self.assertEqual(Sequence(*steps)(numbers), simple_result(numbers, steps))

    def test_what_is_no_list_of_numbers(self):
        for sequence in (Sequence(), Sequence(("insert", 5)), Sequence(("remove", 9))):
            for value in no_lists():
                with self.assertRaises(InvalidList) as caught:
                    sequence(value)
                self.assertIs(caught.exception.value, value)

    def test_the_error_is_a_rank_error(self):
        with self.assertRaises(RankError):
            Sequence()(None)
        with self.assertRaises(ValueError):
            Sequence()("12")

    def test_by_name(self):
        self.assertEqual(Sequence(("insert", 5))(numbers=(9, 1)), [1, 5, 9])
        with self.assertRaises(InvalidList):
            Sequence(("insert", 5))(numbers=None)

    def test_arguments_and_results_are_apart(self):
        for sequence in (Sequence(), Sequence(("insert", 5)), Sequence(("remove", 2)), Sequence(("remove", 5))):
            numbers = [3, 1, 2]
            try:
                result = sequence(numbers)
            except StepFailed:
                result = []
            self.assertEqual(numbers, [3, 1, 2])
            self.assertIsNot(result, numbers)

    def test_an_ascending_argument_is_not_returned(self):
        numbers = [1, 2, 3]
        result = Sequence()(numbers)
        result.append(4)
        self.assertEqual(numbers, [1, 2, 3])
        self.assertEqual(Sequence()(numbers), [1, 2, 3])

    def test_later_changes_of_the_argument(self):
        numbers = [3, 1, 2]
        result = Sequence(("remove", 3))(numbers)
        numbers.clear()
        self.assertEqual(result, [1, 2])

    def test_every_call_starts_anew(self):
        sequence = Sequence(("insert", 5), ("remove", 2))
        numbers = [9]
        first = sequence(numbers)
        second = sequence(numbers)
        self.assertEqual(first, second)
        self.assertIsNot(first, second)
        first.clear()
        self.assertEqual((second, sequence(numbers)), ([5], [5]))
        self.assertEqual(sequence.steps, (("insert", 5), ("remove", 2)))

    def test_usable_after_a_failure(self):
        sequence = Sequence(("insert", 5), ("remove", 3))
        with self.assertRaises(StepFailed):
            sequence([1])
        self.assertEqual(sequence([1, 2]), [1, 2])


class WalkTest(unittest.TestCase):
    def test_lists_after_each_step(self):
        sequence = Sequence(("insert", 5), ("remove", 2), ("remove", 1))
        for numbers in ([1, 9], (9, 1), [9, 1]):
            self.assertEqual(list(sequence.walk(numbers)), [[1, 9], [1, 5, 9], [1, 9], [9]])

    def test_the_list_at_first(self):
        self.assertEqual(list(Sequence().walk((2, 1, 2))), [[1, 2, 2]])
        self.assertEqual(list(Sequence().walk([])), [[]])
        self.assertEqual(list(Sequence(("insert", 3)).walk(())), [[], [3]])

    def test_only_lists_are_yielded(self):
        for numbers in ([3, 1], (3, 1)):
            for result in Sequence(("insert", 2), ("remove", 1)).walk(numbers):
                self.assertIs(type(result), list)

    def test_by_name(self):
        self.assertEqual(list(Sequence(("insert", 5)).walk(numbers=(9, 1))), [[1, 9], [1, 5, 9]])

    def test_wrong_lists_are_told_when_the_iteration_begins(self):
        for sequence in (Sequence(), Sequence(("remove", 9))):
            for value in no_lists():
                iteration = iter(sequence.walk(value))
                with self.assertRaises(InvalidList) as caught:
                    next(iteration)
                self.assertIs(caught.exception.value, value)

    def test_failing_steps_are_told_when_they_come(self):
        iteration = iter(Sequence(("insert", 1), ("remove", 3), ("insert", 4)).walk((5,)))
        self.assertEqual(next(iteration), [5])
        self.assertEqual(next(iteration), [1, 5])
        with self.assertRaises(StepFailed) as caught:
            next(iteration)
        self.assertEqual(caught.exception.index, 1)

    def test_a_first_step_that_fails(self):
        iteration = iter(Sequence(("remove", HUGE)).walk([]))
        self.assertEqual(next(iteration), [])
        with self.assertRaises(StepFailed) as caught:
            next(iteration)
        self.assertEqual(caught.exception.index, 0)

    def test_against_calls(self):
        steps = (("insert", 2), ("remove", 1), ("insert", 2), ("insert", 0), ("remove", 3), ("remove", 1))
        for numbers in ([2], [4, 3], (7, 2, 1, 1)):
            lists = list(Sequence(*steps).walk(numbers))
            self.assertEqual(lists, [Sequence(*steps[:count])(numbers) for count in range(len(steps) + 1)])

    def test_changes_of_yielded_lists(self):
        expected = [[1, 9], [1, 5, 9], [1, 9]]
        seen = []
        numbers = [1, 9]
        for result in Sequence(("insert", 5), ("remove", 2)).walk(numbers):
            seen.append(list(result))
            result.clear()
        self.assertEqual(seen, expected)
        self.assertEqual(numbers, [1, 9])
        seen = []
        for result in Sequence(("insert", 5), ("remove", 2)).walk(numbers):
            seen.append(list(result))
            result.extend([-1, -2])
        self.assertEqual(seen, expected)

    def test_yielded_lists_are_different_objects(self):
        numbers = [1, 9]
        lists = [numbers, *Sequence(("insert", 5), ("remove", 2)).walk(numbers)]
        for one, two in itertools.combinations(lists, 2):
            self.assertIsNot(one, two)

    def test_the_argument_stays_as_it_is(self):
        numbers = [3, 1, 2]
        list(Sequence(("insert", 5), ("remove", 2)).walk(numbers))
        self.assertEqual(numbers, [3, 1, 2])

    def test_changes_of_the_argument_after_the_beginning(self):
        numbers = [9, 1]
        iteration = iter(Sequence(("insert", 5), ("remove", 2)).walk(numbers))
        lists = [next(iteration)]
        numbers.clear()
        lists.append(next(iteration))
        numbers.extend([2, 3, 4])
        lists.extend(iteration)
        self.assertEqual(lists, [[1, 9], [1, 5, 9], [1, 9]])

    def test_iterations_do_not_disturb_each_other(self):
        sequence = Sequence(("insert", 5), ("remove", 1))
        pairs = list(zip(sequence.walk([1, 9]), sequence.walk([7])))
        self.assertEqual(pairs, [([1, 9], [7]), ([1, 5, 9], [5, 7]), ([5, 9], [7])])
        self.assertEqual(list(sequence.walk([7])), [[7], [5, 7], [7]])


class ExampleTest(unittest.TestCase):
    def test_first_example(self):
        sequence = Sequence(("insert", 5), ("remove", 2))
        self.assertEqual([sequence([9]), sequence([3]), len(sequence + sequence), list(sequence.walk((9, 1)))],
                         [[5], [3], 4, [[1, 9], [1, 5, 9], [1, 9]]])

    def test_second_example(self):
        with self.assertRaises(StepFailed) as caught:
            Sequence(("remove", 1), ("remove", 3))([7, 8, 9])
        self.assertEqual(caught.exception.index, 1)


if __name__ == "__main__":
    unittest.main()
