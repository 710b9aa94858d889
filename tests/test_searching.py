"""Tests of rankeffect.searching: the sequences of given steps that have an effect."""

import itertools
import time
import unittest

from tests.drawing import drawn_sequences, shifted_sequence
from tests.odd_objects import HUGE, NO_INTEGERS, NOTHING_USUAL
from tests.raising import check_raises
from rankeffect.effects import Effect
from rankeffect.errors import InvalidList, InvalidNumber
from rankeffect.searching import count_sequences, first_sequence
from rankeffect.sequences import Sequence
from rankeffect.tables import Table

NO_NUMBERS = [*NO_INTEGERS, Sequence(), Effect.nothing()]
EFFECT_STEPS = (("insert", 5), ("remove", 1))
EFFECT = Effect.of(Sequence(*EFFECT_STEPS))
WRONG_LISTS = [*NOTHING_USUAL, 0, 5, Sequence(), Effect.nothing(), [1, 2, 3, 4], (4, 3, 2, 1), [5, 5], (1, 2, 1),
               [0, 0, 0], [1, 1, 2, 2], [True], [0, False], (1, True), [[1]], [(1, 2)], ["1"],
               *[[number] for number in NO_NUMBERS], *[(4, number) for number in NO_NUMBERS]]
WRONG_RANKS = [*NO_NUMBERS, -1, 4, 5, HUGE, -HUGE]
WRONG_SIZES = [*NO_NUMBERS, -1, 6, 7, HUGE, -HUGE]


def everything(numbers, ranks, length):
    """The steps of all sequences with so many insertions of the numbers and removals, in list order."""
    choices = [("insert", number) for number in numbers] + [("remove", rank) for rank in range(1, ranks + 1)]
    return sorted(itertools.product(choices, repeat=length))


def effects_of(steps_lists):
    return [Effect.of(Sequence(*steps)) for steps in steps_lists]


class AgainstAllSequencesTest(unittest.TestCase):
    # Numbers in any order, as a list or a tuple.
    SIZES = [((), 0, 4), ([], 1, 4), ((), 3, 4), ([7], 0, 4), ((7,), 2, 4), ([9, -2], 1, 4), ((3, 8), 2, 3),
             ([5, -5, 0], 1, 3), ((2, 1, 3), 3, 3), ([1, 3, 2], 0, 4), ([-HUGE, HUGE], 2, 3)]

    def sample(self, numbers, ranks, most):
        """Some effects, among them such that none of the sequences has."""
        all_effects = []
        for length in range(most + 1):
            found = effects_of(everything(numbers, ranks, length))
            all_effects.extend(found[::max(1, len(found) // 14)])
            all_effects.extend(found[-2:])
        others = drawn_sequences(1001, 4, 4, (4, 100), 5)
        return [*all_effects, *[Effect.of(other) for other in others], Effect((5,), (Table(0, ()), Table(7, (2,))))]

    def test_counts(self):
        for numbers, ranks, most in self.SIZES:
            counted = [effects_of(everything(numbers, ranks, length)) for length in range(most + 1)]
            for effect in self.sample(numbers, ranks, most):
                for length, effects in enumerate(counted):
                    found = count_sequences(effect, numbers, ranks, length)
                    self.assertIs(type(found), int)
                    self.assertEqual(found, effects.count(effect))

    def test_first_ones(self):
        for numbers, ranks, most in self.SIZES:
            ordered = [steps for length in range(most + 1) for steps in everything(numbers, ranks, length)]
            effects = effects_of(ordered)
            for effect in self.sample(numbers, ranks, most):
                first = ordered[effects.index(effect)] if effect in effects else None
                for size in range(most + 1):
                    wanted = None if first is None or len(first) > size else Sequence(*first)
                    found = first_sequence(effect, numbers, ranks, size)
                    self.assertEqual(found, wanted)
                    self.assertEqual(type(found), type(wanted))

    def test_three_numbers_and_four_steps(self):
        for numbers in ([2, 6, 4], (6, 4, 2)):
            ordered = everything(numbers, 3, 4)
            effects = effects_of(ordered)
            for at in range(5, len(ordered), 200):
                self.assertEqual(count_sequences(effects[at], numbers, 3, 4), effects.count(effects[at]))
                found = first_sequence(effects[at], numbers, 3, 4)
                if len(found) == 4:
                    self.assertEqual(found.steps, ordered[effects.index(effects[at])])
                self.assertEqual(Effect.of(found), effects[at])

    def test_every_sequence_is_counted_once(self):
        for numbers, ranks, length in (([4], 1, 4), ((4, 1), 2, 3), ([3, 2, 1], 3, 2), ([], 2, 4)):
            different = []
            for effect in effects_of(everything(numbers, ranks, length)):
                if effect not in different:
                    different.append(effect)
            total = sum(count_sequences(effect, numbers, ranks, length) for effect in different)
            self.assertEqual(total, (len(numbers) + ranks) ** length)


class EdgeTest(unittest.TestCase):
    def test_no_numbers_and_no_ranks(self):
        for numbers in ([], ()):
            self.assertEqual([count_sequences(Effect.nothing(), numbers, 0, length) for length in range(6)],
                             [1, 0, 0, 0, 0, 0])
            self.assertEqual(first_sequence(Effect.nothing(), numbers, 0, 5), Sequence())
            self.assertIsNone(first_sequence(EFFECT, numbers, 0, 5))
            self.assertEqual(count_sequences(EFFECT, numbers, 0, 0), 0)

    def test_the_empty_sequence(self):
        self.assertEqual(count_sequences(Effect.nothing(), [1, 2], 3, 0), 1)
        self.assertEqual(first_sequence(Effect.nothing(), [1, 2], 3, 0), Sequence())
        self.assertEqual(first_sequence(Effect.nothing(), [1, 2], 3, 5), Sequence())
        self.assertIsNone(first_sequence(EFFECT, [5], 1, 0))

    def test_shorter_ones_go_first(self):
        effect = Effect.of(Sequence(("insert", 5), ("insert", 7)))
        self.assertEqual(first_sequence(effect, [7, 5], 3, 5).steps, (("insert", 5), ("insert", 7)))
        self.assertIsNone(first_sequence(effect, [7, 5], 3, 1))
        # Inserting, which the sequences of list order begin with, does not help: this one has only removals.
        effect = Effect.of(Sequence(("remove", 2), ("remove", 1)))
        self.assertEqual(first_sequence(effect, [1], 3, 5).steps, (("remove", 1), ("remove", 1)))

    def test_numbers_in_list_order_and_not_in_that_of_the_argument(self):
        effect = Effect.of(Sequence(("insert", 9), ("insert", -9), ("insert", 0)))
        for numbers in itertools.permutations([9, -9, 0]):
            for kind in (list, tuple):
                self.assertEqual(first_sequence(effect, kind(numbers), 1, 3).steps,
                                 (("insert", -9), ("insert", 0), ("insert", 9)))
                self.assertEqual(count_sequences(effect, kind(numbers), 1, 3), 6)

    def test_an_effect_that_none_has(self):
        for effect in (Effect.of(Sequence(("insert", 1))), Effect.of(Sequence(("remove", 4))),
                       Effect((5,), (Table(0, ()), Table(0, (7,)))), Effect((), (Table(4, ()),))):
            for size in range(5):
                self.assertEqual(count_sequences(effect, [5], 3, size), 0)
                self.assertIsNone(first_sequence(effect, [5], 3, size))

    def test_length_five(self):
        before = time.monotonic()
        removals = Effect.of(Sequence(*[("remove", 1)] * 5))
        # Of ranks up to 3, the sets {1, .., 5} of removed elements in any order that only needs these ranks.
        wanted = effects_of(everything([], 3, 5)).count(removals)
        self.assertEqual(count_sequences(removals, [5, 6, 7], 3, 5), wanted)
        self.assertEqual(count_sequences(Effect.of(Sequence(*[("insert", 6)] * 5)), [5, 6, 7], 3, 5), 1)
        mixed = Sequence(("insert", 7), ("remove", 3), ("insert", 5), ("remove", 2), ("insert", 6))
        found = first_sequence(Effect.of(mixed), (7, 5, 6), 3, 5)
        self.assertEqual((len(found), Effect.of(found)), (5, Effect.of(mixed)))
        self.assertLessEqual(found.steps, mixed.steps)
        self.assertIsNone(first_sequence(Effect.of(Sequence(("remove", 9))), [5, 6, 7], 3, 5))
        self.assertLess(time.monotonic() - before, 20)

    def test_first_one_of_length_five(self):
        effect = Effect.of(Sequence(("insert", 2), ("remove", 3), ("insert", 1), ("remove", 3), ("insert", 2)))
        ordered = everything([1, 2], 3, 5)
        effects = effects_of(ordered)
        self.assertEqual(count_sequences(effect, [2, 1], 3, 5), effects.count(effect))
        self.assertEqual(first_sequence(effect, [2, 1], 3, 5).steps, ordered[effects.index(effect)])
        self.assertIsNone(first_sequence(effect, [2, 1], 3, 4))


class ErrorTest(unittest.TestCase):
    RUNS = (count_sequences, first_sequence)

    def test_lists(self):
        for run, value in itertools.product(self.RUNS, WRONG_LISTS):
            check_raises(self, InvalidList, value, run, EFFECT, value, 1, 1)

    def test_lists_come_first(self):
        for run, value in itertools.product(self.RUNS, WRONG_LISTS):
            for ranks, size in ((4, 1), (1, 6), (None, None), (-1, True), (value, value), (True, -1)):
                check_raises(self, InvalidList, value, run, EFFECT, value, ranks, size)

    def test_ranks(self):
        for run, value in itertools.product(self.RUNS, WRONG_RANKS):
            for size in (0, 5, 6, -1, True, None, value):
                check_raises(self, InvalidNumber, value, run, EFFECT, [5], value, size)

    def test_last_arguments(self):
        for run, value in itertools.product(self.RUNS, WRONG_SIZES):
            for numbers, ranks in (([5, 1], 2), ([], 0), ((1, 2, 3), 3)):
                check_raises(self, InvalidNumber, value, run, EFFECT, numbers, ranks, value)
                check_raises(self, InvalidNumber, value, run, Effect.nothing(), numbers, ranks, value)

    def test_the_greatest_ones_are_allowed(self):
        self.assertEqual(count_sequences(EFFECT, [5], 0, 5), 0)
        self.assertEqual(count_sequences(EFFECT, [5, 1, 2], 3, 2), 1)
        self.assertEqual(first_sequence(EFFECT, [5], 3, 5).steps, (("insert", 5), ("remove", 1)))


class FormTest(unittest.TestCase):
    def test_by_name(self):
        self.assertEqual(count_sequences(length=2, ranks=1, numbers=[5], effect=EFFECT), 1)
        self.assertEqual(first_sequence(most=3, ranks=1, numbers=[5], effect=EFFECT).steps, EFFECT_STEPS)

    def test_nothing_changes(self):
        numbers = [9, 5, 7]
        count_sequences(EFFECT, numbers, 1, 3)
        first_sequence(EFFECT, numbers, 1, 3)
        self.assertEqual(numbers, [9, 5, 7])
        self.assertEqual(EFFECT, Effect.of(Sequence(*EFFECT_STEPS)))

    def test_shifted_numbers(self):
        for sequence in drawn_sequences(1002, 25, 4, (-3, 6), 2):
            effect = Effect.of(sequence)
            for offset in (17, -10 ** 59):
                numbers = [6 + offset, -3 + offset]
                for length in range(5):
                    self.assertEqual(count_sequences(effect.shifted(offset), numbers, 2, length),
                                     count_sequences(effect, [6, -3], 2, length))
                self.assertEqual(first_sequence(effect.shifted(offset), numbers, 2, 4),
                                 shifted_sequence(first_sequence(effect, [6, -3], 2, 4), offset))

    def test_example(self):
        effect = Effect.of(Sequence(("remove", 1), ("remove", 1)))
        self.assertEqual([count_sequences(effect, [5], 2, 2), first_sequence(effect, [5], 2, 2).steps,
                          first_sequence(effect, [], 1, 1)], [2, (("remove", 1), ("remove", 1)), None])


if __name__ == "__main__":
    unittest.main()
