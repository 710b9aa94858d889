"""Tests of rankeffect.repeating: what becomes of counts, ranks and lists if an effect is repeated very often."""

import itertools
import unittest

from tests.drawing import count_after, drawn_sequences, inserted, outcome, shifted_sequence, short_lists
from tests.odd_objects import HUGE, NO_INTEGERS, NOTHING_USUAL
from rankeffect.effects import Effect
from rankeffect.errors import InvalidList, InvalidNumber, LimitExceeded, StepFailed
from rankeffect.repeating import Repetition
from rankeffect.sequences import Sequence
from rankeffect.tables import Table

MOST = 10 ** 30
LONG = 10 ** 24  # a number with 25 digits
INSERT, LEAST = ("insert", 5), ("remove", 1)
NO_NUMBERS = [*NO_INTEGERS, Effect.nothing(), Sequence()]
NO_COUNTS = [*NO_NUMBERS, -1, -HUGE]
NO_RANKS = [*NO_COUNTS, 0]

GROWING = [
    Sequence(INSERT),
    Sequence(INSERT, INSERT, ("remove", 3)),
    Sequence(("insert", 1), ("insert", 2), INSERT, ("remove", 2), ("remove", 9)),
    Sequence(("remove", 6), *[INSERT] * 4, ("remove", 12), ("remove", 4)),
]
SHRINKING = [
    Sequence(LEAST),
    Sequence(LEAST, ("remove", 3)),
    Sequence(("remove", 4), INSERT, ("remove", 9), ("insert", 2), ("remove", 2), ("remove", 11)),
    Sequence(("remove", 10), ("remove", 7), INSERT, ("remove", 2), ("remove", 2)),
]
STAYING = [
    Sequence(),
    Sequence(INSERT, LEAST),
    Sequence(INSERT, ("remove", 8)),
    Sequence(("remove", 5), INSERT),
    Sequence(("insert", 3), ("remove", 7), INSERT, ("remove", 2)),
]
SMALL = [*GROWING, *SHRINKING, *STAYING]
LARGE = [
    Sequence(INSERT, INSERT, ("remove", LONG)),
    Sequence(INSERT, ("remove", LONG)),
    Sequence(("remove", LONG), ("remove", 5), ("insert", 4)),
    Sequence(("remove", LONG), ("remove", 2 * LONG), ("remove", 7)),
    Sequence(("insert", 0), *[("insert", 9)] * 3, ("remove", LONG), ("remove", 3 * LONG), ("remove", 7)),
    Sequence(*[INSERT] * 7, ("remove", LONG // 3), ("remove", LONG // 2), ("insert", 6), ("remove", LONG), LEAST),
]


def effect_of(*steps):
    return Effect.of(Sequence(*steps))


def thresholds_of(sequence):
    """A threshold below all breaks, and each break."""
    breaks = inserted(sequence)
    return [min([0, *breaks]) - 1, *breaks]


def rows(sequence, threshold, most_times, most_count):
    """For each number of repetitions, what becomes of the counts from 0 on, by counting step by step."""
    row = list(range(most_count + 1))
    found = [row]
    for _ in range(most_times):
        row = [count_after(sequence, threshold, count) for count in row]
        found.append(row)
    return found


def lost_in(row):
    return [count for count in range(1, len(row)) if row[count] == row[count - 1]]


def succeeds(sequence, times, length):
    """Whether so many repetitions succeed on a list with so many elements, by counting step by step."""
    for word, number in sequence.steps * times:
        if word == "remove" and number > length:
            return False
        length += 1 if word == "insert" else -1
    return True


class StepByStepTest(unittest.TestCase):
    def test_counts_and_lost_ranks(self):
        for sequence in SMALL:
            effect = Effect.of(sequence)
            for threshold in thresholds_of(sequence):
                for times, row in enumerate(rows(sequence, threshold, 59, 50)):
                    self.check_row(Repetition(effect, times), threshold, row)

    def check_row(self, repetition, threshold, row):
        counts = range(len(row))
        lost = lost_in(row)
        self.assertEqual([repetition.count(threshold, count) for count in counts], row)
        self.assertEqual([rank for rank in counts[1:] if repetition.loses(threshold, rank)], lost)
        self.assertEqual([repetition.lost_up_to(threshold, count) for count in counts],
                         [sum(rank <= count for rank in lost) for count in counts])
        self.assertEqual([repetition.nth_lost(threshold, index) for index in range(len(lost))], lost)
        following = repetition.nth_lost(threshold, len(lost))
        self.assertTrue(following is None or following >= len(row))

    def test_all_lost_ranks(self):
        for sequence in [*SMALL, *drawn_sequences(77, 12, 8, (2, 5), 9)]:
            for threshold in thresholds_of(sequence):
                found = rows(sequence, threshold, 59, 600)
                for times in (0, 1, 2, 3, 10, 31, 58, 59):
                    repetition = Repetition(Effect.of(sequence), times)
                    lost = lost_in(found[times])
                    many = len(lost)
                    self.assertEqual([repetition.nth_lost(threshold, index) for index in range(many)], lost)
                    self.assertIsNone(repetition.nth_lost(threshold, many))
                    self.assertIsNone(repetition.nth_lost(threshold, many + 1))
                    self.assertEqual(repetition.lost_up_to(threshold, 600), many)
                    self.assertEqual(repetition.lost_up_to(threshold, HUGE), many)

    def test_need_and_growth(self):
        for sequence in [*SMALL, *drawn_sequences(78, 20, 6, (2, 5), 7)]:
            effect = Effect.of(sequence)
            for times in range(60):
                repetition = Repetition(effect, times)
                self.assertTrue(succeeds(sequence, times, repetition.need))
                self.assertEqual(repetition.need > 0, not succeeds(sequence, times, 0))
                self.assertFalse(repetition.need > 0 and succeeds(sequence, times, repetition.need - 1))
                self.assertEqual(repetition.growth, times * effect.growth)

    def test_results(self):
        for sequence in SMALL:
            effect = Effect.of(sequence)
            for numbers in ([], [5], (9, 1), [3] * 30, list(range(-50, 80)), [5, 6, 4] * 70):
                wanted = sorted(numbers)
                for times in range(60):
                    self.assertEqual(outcome(Repetition(effect, times), numbers), wanted)
                    wanted = None if wanted is None else outcome(sequence, wanted)

    def test_results_on_short_lists(self):
        for sequence in drawn_sequences(79, 40, 5, (2, 5), 3):
            for times in (0, 1, 2, 7):
                repetition = Repetition(Effect.of(sequence), times)
                for numbers in short_lists((1, 2, 4, 5, 6), 3):
                    self.assertEqual(outcome(repetition, numbers), outcome(sequence * times, numbers))

    def test_against_products_of_effects(self):
        for sequence in drawn_sequences(80, 30, 9, (0, 2, 5), 12):
            effect = Effect.of(sequence)
            for times in (0, 1, 2, 5, 20):
                product, repetition = effect * times, Repetition(effect, times)
                self.assertEqual((repetition.need, repetition.growth), (product.need, product.growth))
                for threshold in thresholds_of(sequence):
                    lost = product.table(threshold).lost
                    found = [repetition.nth_lost(threshold, index) for index in range(len(lost) + 1)]
                    self.assertEqual(found, [*lost, None])
                    self.assertEqual(repetition.count(threshold, 0), product.table(threshold).start)

    def test_thresholds_between_the_breaks(self):
        repetition = Repetition(effect_of(("insert", 2), ("insert", 8)), 11)
        self.assertEqual([repetition.count(at, 4) for at in (-HUGE, 1, 2, 3, 7, 8, 9, HUGE)],
                         [4, 4, 15, 15, 15, 26, 26, 26])


class ManyTimesTest(unittest.TestCase):
    def check_lost(self, repetition, threshold, ranks):
        total = repetition.lost_up_to(threshold, HUGE)
        self.assertIsNone(repetition.nth_lost(threshold, total))
        wanted = {0, 1, 2, 3, 10, LONG, total // 3, total // 2, total // 2 + 1, total - 2, total - 1}
        indices = sorted(index for index in wanted if 0 <= index < total)
        found = [repetition.nth_lost(threshold, index) for index in indices]
        for low, high in zip(found, found[1:]):
            self.assertLess(low, high)
        for index, rank in zip(indices, found):
            self.assertEqual(repetition.lost_up_to(threshold, rank), index + 1)
            self.assertEqual(repetition.lost_up_to(threshold, rank - 1), index)
            self.assertIs(repetition.loses(threshold, rank), True)
            following = repetition.nth_lost(threshold, index + 1)
            self.assertEqual(repetition.loses(threshold, rank + 1), following == rank + 1)
            self.assertTrue(following is None or following > rank)
        for rank in ranks:
            many = repetition.lost_up_to(threshold, rank)
            if many:
                last = repetition.nth_lost(threshold, many - 1)
                self.assertEqual(repetition.loses(threshold, rank), last == rank)
                self.assertLessEqual(last, rank)
            following = repetition.nth_lost(threshold, many)
            self.assertTrue(following is None or following > rank)

    def test_lost_ranks(self):
        ranks = [1, 2, 7, 1000, LONG - 1, LONG, LONG + 1, 123456 * 10 ** 19 + 17, 5 * LONG, MOST, MOST + LONG, HUGE]
        for sequence in [*SMALL, *LARGE]:
            for times in (MOST, MOST - 1, 10 ** 25, LONG // 7, 12345):
                for threshold in thresholds_of(sequence):
                    self.check_lost(Repetition(Effect.of(sequence), times), threshold, ranks)

    def test_a_times_and_then_b_times(self):
        parts = [(0, MOST), (1, MOST - 1), (MOST - 1, 1), (MOST // 2, MOST // 2), (LONG, 7), (12, 47),
                 (10 ** 23 + 5, 10 ** 29), (LONG // 2 - 1, 1), (LONG // 2, 3)]
        counts = [0, 1, 2, 5, 30, LONG - 1, LONG, LONG + 1, 3 * LONG, 10 ** 29, MOST, 4 * MOST, HUGE]
        for sequence, (first, second) in itertools.product([*SMALL, *LARGE], parts):
            effect = Effect.of(sequence)
            one, two, both = [Repetition(effect, times) for times in (first, second, first + second)]
            self.assertEqual(both.growth, one.growth + two.growth)
            for threshold in thresholds_of(sequence):
                for count in counts:
                    middle = one.count(threshold, count)
                    self.assertEqual(both.count(threshold, count), two.count(threshold, middle))

    def test_once_more_is_the_table(self):
        for sequence in LARGE:
            effect = Effect.of(sequence)
            for threshold in thresholds_of(sequence):
                for count in (0, 3, LONG - 2, LONG, 7 * LONG, MOST):
                    for times in (0, LONG // 8, LONG // 7, MOST - 1):
                        before = Repetition(effect, times).count(threshold, count)
                        after = Repetition(effect, times + 1).count(threshold, count)
                        self.assertEqual(after, effect.table(threshold)(before))

    def test_need_is_the_greatest_lost_rank_above_all_breaks(self):
        for sequence in [*SMALL, *LARGE]:
            for times in (0, 1, 2, 10 ** 25, MOST):
                repetition = Repetition(Effect.of(sequence), times)
                last = thresholds_of(sequence)[-1]
                total = repetition.lost_up_to(last, HUGE)
                wanted = repetition.nth_lost(last, total - 1) if total else 0
                self.assertEqual(repetition.need, wanted)
                self.assertEqual(repetition.growth, repetition.count(last, HUGE) - HUGE)

    def test_removing_the_least_element(self):
        repetition = Repetition(effect_of(LEAST), MOST)
        self.assertEqual([repetition.nth_lost(0, index) for index in (0, 1, LONG, MOST - 1, MOST, HUGE)],
                         [1, 2, LONG + 1, MOST, None, None])
        self.assertEqual([repetition.need, repetition.growth], [MOST, -MOST])
        self.assertEqual([repetition.count(0, count) for count in (0, 5, MOST, MOST + 1, HUGE)],
                         [0, 0, 0, 1, HUGE - MOST])
        self.assertEqual([repetition.loses(0, rank) for rank in (1, MOST, MOST + 1)], [True, True, False])

    def test_removing_what_was_inserted(self):
        repetition = Repetition(effect_of(INSERT, LEAST), MOST)
        self.assertEqual([repetition.nth_lost(4, index) for index in (0, LONG, MOST - 1, MOST)],
                         [1, LONG + 1, MOST, None])
        self.assertEqual([repetition.nth_lost(5, 0), repetition.need, repetition.growth], [None, 0, 0])
        self.assertEqual([repetition.count(4, 7), repetition.count(5, 7)], [0, 7])

    def test_slower_growth_from_a_long_rank_on(self):
        repetition = Repetition(effect_of(INSERT, INSERT, ("remove", LONG)), MOST)
        # Two more each time up to LONG - 2, and one more from there on.
        self.assertEqual(repetition.count(5, 0), LONG - 2 + MOST - (LONG // 2 - 1))
        self.assertEqual(repetition.count(5, HUGE), HUGE + MOST)
        self.assertEqual([repetition.need, repetition.growth], [LONG - 2, MOST])
        self.assertEqual(repetition.lost_up_to(5, HUGE), LONG // 2 - 1)
        self.assertEqual([repetition.nth_lost(5, index) for index in (0, 1, 2, LONG // 2 - 2)], [2, 4, 6, LONG - 2])

    def test_the_greatest_lost_rank_of_shrinking_lists(self):
        repetition = Repetition(effect_of(LEAST, ("remove", 3)), MOST)
        self.assertEqual([repetition.need, repetition.growth], [2 * MOST + 2, -2 * MOST])
        self.assertEqual(repetition.nth_lost(0, 2 * MOST - 1), 2 * MOST + 2)

    def test_many_lost_ranks_in_the_table(self):
        ranks = [LONG // 100 * (at + 1) + at * at for at in range(200)]
        effect = Effect((5,), (Table(0, ranks), Table(100, ranks)))
        for times in (5, 10 ** 22, 10 ** 25, MOST):
            for threshold in (4, 5):
                self.check_lost(Repetition(effect, times), threshold, [LONG, 7 * LONG])

    def test_results(self):
        self.assertEqual(Repetition(effect_of(INSERT, LEAST), MOST)([9, 1]), [5, 9])
        self.assertEqual(Repetition(effect_of(INSERT, ("remove", 2)), MOST)([9, 1]), [1, 9])
        self.assertEqual(Repetition(effect_of(INSERT, ("remove", 3)), MOST)([9, 1]), [1, 5])
        self.assertEqual(Repetition(effect_of(("remove", 3), ("insert", 2)), MOST)([7, 8, 9, 10, 1]), [1, 2, 2, 9, 10])
        self.assertEqual(Repetition(Effect.nothing(), MOST)((3, 1, 2)), [1, 2, 3])
        self.assertEqual(Repetition(effect_of(INSERT), 500)([]), [5] * 500)

    def test_results_that_no_more_repetitions_change(self):
        for sequence in STAYING:
            effect = Effect.of(sequence)
            for numbers in ([4] * 12, list(range(-6, 14)), [5, 9, 9, 2, 2, 2, 8, 8, 1]):
                wanted = Repetition(effect, 59)(numbers)
                self.assertEqual(Repetition(effect, MOST)(numbers), wanted)


class ErrorTest(unittest.TestCase):
    def setUp(self):
        self.repetition = Repetition(effect_of(INSERT, ("remove", 3)), 7)

    def test_numbers_of_repetitions(self):
        for value in [*NO_COUNTS, MOST + 1, HUGE]:
            for effect in (Effect.nothing(), effect_of(LEAST)):
                with self.assertRaises(InvalidNumber) as caught:
                    Repetition(effect, value)
                self.assertIs(caught.exception.value, value)
        for times in (0, 1, MOST):
            self.assertEqual(Repetition(effect=effect_of(INSERT), times=times).growth, times)

    def check_number(self, value, run, *arguments):
        with self.assertRaises(InvalidNumber) as caught:
            run(*arguments)
        self.assertIs(caught.exception.value, value)

    def test_thresholds_come_first(self):
        runs = [self.repetition.count, self.repetition.loses, self.repetition.lost_up_to, self.repetition.nth_lost]
        for run in runs:
            for value in NO_NUMBERS:
                for second in (1, 0, -1, True, None, [], value):
                    self.check_number(value, run, value, second)

    def test_second_arguments(self):
        for threshold in (-HUGE, 4, 5):
            for value in NO_COUNTS:
                self.check_number(value, self.repetition.count, threshold, value)
                self.check_number(value, self.repetition.lost_up_to, threshold, value)
                self.check_number(value, self.repetition.nth_lost, threshold, value)
            for value in NO_RANKS:
                self.check_number(value, self.repetition.loses, threshold, value)

    def test_second_arguments_without_repetitions(self):
        nothing = Repetition(Effect.nothing(), 0)
        for run in (nothing.count, nothing.lost_up_to, nothing.nth_lost, nothing.loses):
            for value in (-1, True, None):
                self.check_number(value, run, 0, value)
            for value in (True, None):
                self.check_number(value, run, value, 1)

    def test_by_name(self):
        repetition = self.repetition
        self.assertEqual(repetition.count(count=9, threshold=4), 2)
        self.assertEqual(repetition.loses(rank=3, threshold=4), True)
        self.assertEqual(repetition.lost_up_to(count=4, threshold=4), 2)
        self.assertEqual(repetition.nth_lost(index=1, threshold=4), 4)
        self.assertEqual(repetition(numbers=[9, 9]), [5, 5])

    def test_what_is_no_list_of_numbers(self):
        wrong = [*NOTHING_USUAL, 0, Sequence(), Effect.nothing(), [[]], [(1,)], *[[number] for number in NO_NUMBERS]]
        for value in wrong:
            # Neither the need nor the length of the result is looked at before.
            for steps in ([INSERT], [("remove", 9)], [INSERT, INSERT, ("remove", 600)]):
                for times in (0, 1, MOST):
                    with self.assertRaises(InvalidList) as caught:
                        Repetition(effect_of(*steps), times)(value)
                    self.assertIs(caught.exception.value, value)

    def test_failures(self):
        cases = [(effect_of(LEAST), MOST, [1] * 500), (effect_of(LEAST), 4, [1, 2, 3]),
                 (effect_of(("remove", 2), INSERT), 1, [1]), (effect_of(("remove", HUGE), INSERT), MOST, [1] * 500),
                 # The list afterwards would be too long as well.
                 (effect_of(INSERT, INSERT, ("remove", 600)), MOST, [1, 2, 3]),
                 (effect_of(INSERT, INSERT, ("remove", 600)), 501, [])]
        for effect, times, numbers in cases:
            with self.assertRaises(StepFailed) as caught:
                Repetition(effect, times)(numbers)
            self.assertIsNone(caught.exception.index)

    def test_limit(self):
        cases = [(effect_of(INSERT), MOST, []), (effect_of(INSERT), 501, []), (effect_of(INSERT), 499, [1, 2]),
                 (effect_of(INSERT, INSERT, ("remove", 4)), 498, [1, 2, 3]),
                 (effect_of(("remove", 2), INSERT, INSERT), MOST, [7, 8])]
        for effect, times, numbers in cases:
            with self.assertRaises(LimitExceeded) as caught:
                Repetition(effect, times)(numbers)
            self.assertEqual(caught.exception.limit, 500)
        self.assertEqual(len(Repetition(effect_of(INSERT), 498)([1, 2])), 500)
        self.assertEqual(len(Repetition(effect_of(INSERT, INSERT, ("remove", 4)), 497)([1, 2, 3])), 500)

    def test_new_lists_and_no_changes(self):
        repetition = Repetition(Effect.nothing(), 0)
        numbers = [3, 1]
        result = repetition(numbers)
        self.assertEqual((result, numbers), ([1, 3], [3, 1]))
        result.append(9)
        self.assertEqual(repetition(numbers), [1, 3])
        ordered = [1, 2]
        self.assertIsNot(repetition(ordered), ordered)

    def test_kinds(self):
        repetition = self.repetition
        self.assertEqual({type(number) for number in (repetition.need, repetition.growth, repetition.count(4, 3),
                                                      repetition.lost_up_to(4, 3), repetition.nth_lost(4, 0))}, {int})
        self.assertEqual([type(repetition.loses(4, rank)) for rank in (1, 3)], [bool, bool])
        self.assertIs(type(repetition([8, 9])), list)


class ShiftedTest(unittest.TestCase):
    def test_repetitions_of_shifted_effects(self):
        for sequence, offset in itertools.product(SMALL, (3, -10 ** 59)):
            effect = Effect.of(sequence)
            for times in (0, 4, MOST):
                one, two = Repetition(effect, times), Repetition(effect.shifted(offset), times)
                other = Repetition(Effect.of(shifted_sequence(sequence, offset)), times)
                self.assertEqual((two.need, two.growth), (one.need, one.growth))
                for threshold in thresholds_of(sequence):
                    for count in (0, 4, 17, LONG):
                        self.assertEqual(two.count(threshold + offset, count), one.count(threshold, count))
                        self.assertEqual(other.count(threshold + offset, count), one.count(threshold, count))


class ExampleTest(unittest.TestCase):
    def test_example(self):
        three = Repetition(Effect.of(Sequence(("remove", 1), ("remove", 3))), 3)
        self.assertEqual([[three.nth_lost(0, index) for index in range(7)], three.need, three.count(0, 10),
                          three([1, 2, 3, 4, 5, 6, 7, 8])], [[1, 2, 3, 4, 6, 8, None], 8, 4, [5, 7]])


if __name__ == "__main__":
    unittest.main()
