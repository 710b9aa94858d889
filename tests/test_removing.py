"""Tests of rankeffect.removing: which old elements a sequence that is repeated without end removes, and when."""

import unittest

from tests.drawing import drawn_sequences, inserted, shifted_sequence
from tests.odd_objects import HUGE, NO_INTEGERS
from tests.raising import check_raises
from rankeffect.effects import Effect
from rankeffect.errors import InvalidNumber
from rankeffect.removing import never_removed, old_rank, removal_of
from rankeffect.repeating import Repetition
from rankeffect.sequences import Sequence

MOST = 10 ** 30
INSERT = ("insert", 5)
NO_NUMBERS = [*NO_INTEGERS, Sequence(), Effect.nothing()]
NO_COUNTS = [*NO_NUMBERS, -1, -2, -HUGE]

SEQUENCES = [
    Sequence(("remove", 1)),
    Sequence(("remove", 1), ("remove", 3)),
    Sequence(("remove", 3), ("remove", 1)),
    Sequence(("remove", 2), ("remove", 2), ("remove", 2)),
    Sequence(("remove", 4), INSERT, ("remove", 9), ("insert", -7), ("remove", 2), ("remove", 11)),
    Sequence(INSERT, INSERT, ("remove", 6), ("remove", 5)),
    Sequence(("remove", 9), ("remove", 8), ("remove", 7), ("remove", 30), INSERT),
    Sequence(("remove", 7), ("remove", 19), ("remove", 3), ("remove", 19), ("remove", 4)),
    *drawn_sequences(801, 120, 8, (3, 6), 12),
]
STAYING = [Sequence(), Sequence(INSERT), Sequence(INSERT, ("insert", -5), INSERT)]
LONG_RANKS = [
    Sequence(("remove", 10 ** 59)),
    Sequence(("remove", 10 ** 59 + 7), ("remove", 2)),
    Sequence(("remove", 3), INSERT, ("remove", 10 ** 59), ("remove", 3), ("remove", 8)),
    Sequence(("remove", 10 ** 59), ("remove", 10 ** 20), ("remove", 10 ** 25), ("insert", 2), ("remove", 4)),
    Sequence(("remove", 5), ("remove", 6), ("remove", 123456 * 10 ** 54 + 1), ("remove", 999)),
]


def removals(sequence):
    return [index for index, (word, _) in enumerate(sequence.steps) if word == "remove"]


WITH_REMOVALS = [sequence for sequence in SEQUENCES if removals(sequence)]


def model(sequence, repetitions, length):
    """The removed old ranks as {(repetition, index): rank}, and the old ranks that stay, on so many old elements."""
    old = list(range(1, length + 1))
    found = {}
    for repetition in range(repetitions):
        for index in removals(sequence):
            found[repetition, index] = old.pop(sequence.steps[index][1] - 1)
    return found, old


class AgainstOldElementsTest(unittest.TestCase):
    def check_all(self, sequence, repetitions, length):
        found, stay = model(sequence, repetitions, length)
        for (repetition, index), rank in found.items():
            self.assertEqual(old_rank(sequence, repetition, index), rank)
            self.assertEqual(removal_of(sequence, rank), (repetition, index))
        for rank in stay:
            removal = removal_of(sequence, rank)
            if removal is not None:
                self.assertGreaterEqual(removal[0], repetitions)
                self.assertEqual(old_rank(sequence, *removal), rank)

    def test_a_dozen_repetitions(self):
        for sequence in SEQUENCES:
            self.check_all(sequence, 12, 130)

    def test_many_repetitions(self):
        self.check_all(Sequence(("remove", 7), INSERT, ("remove", 19), ("remove", 3), ("remove", 4)), 150, 700)
        self.check_all(Sequence(("remove", 20), ("remove", 2), ("remove", 40)), 150, 520)

    def test_never_removed(self):
        for sequence in WITH_REMOVALS:
            found, stay = model(sequence, 60, 600)
            wanted = [rank for rank in stay if rank <= 60]
            self.assertEqual(never_removed(sequence), len(wanted))
            for rank in range(1, 61):
                self.assertEqual(removal_of(sequence, rank) is None, rank in wanted)
                self.assertEqual(removal_of(sequence, rank) is None, rank <= never_removed(sequence))

    def test_the_elements_of_real_lists(self):
        for sequence in SEQUENCES[:40]:
            # Every old element is smaller than every inserted number, and its rank can be read off.
            low = min([0, *inserted(sequence)]) - 1000
            numbers = [low + rank for rank in range(1, 101)]
            states = list((sequence * 6).walk(numbers))
            for at, (before, after) in enumerate(zip(states, states[1:])):
                repetition, index = divmod(at, len(sequence))
                if sequence.steps[index][0] == "remove":
                    gone, = set(before) - set(after)
                    self.assertEqual(old_rank(sequence, repetition, index), gone - low)
                    self.assertEqual(removal_of(sequence, gone - low), (repetition, index))

    def test_without_removal(self):
        for sequence in STAYING:
            self.assertIsNone(never_removed(sequence))
            for rank in (1, 2, 10 ** 30, HUGE):
                self.assertIsNone(removal_of(sequence, rank))

    def test_equal_ranks_of_lost_ones_below_the_inserted_numbers(self):
        for sequence in WITH_REMOVALS:
            effect = Effect.of(sequence)
            below = min([0, *inserted(sequence)]) - 1
            for times in (0, 1, 2, 5, 11):
                repetition = Repetition(effect, times)
                ranks = sorted(old_rank(sequence, at, index) for at in range(times) for index in removals(sequence))
                lost = [repetition.nth_lost(below, index) for index in range(len(ranks) + 1)]
                self.assertEqual(lost, [*ranks, None])


class LongTest(unittest.TestCase):
    TIMES = (0, 1, 2, 77, 10 ** 9 + 7, 123456789 * 10 ** 8 + 5, 10 ** 20, 10 ** 29 + 12345, MOST - 1, MOST)

    def test_leads_back_from_long_repetitions(self):
        for sequence in [*WITH_REMOVALS, *LONG_RANKS]:
            for repetition in self.TIMES:
                for index in removals(sequence):
                    rank = old_rank(sequence, repetition, index)
                    self.assertEqual(removal_of(sequence, rank), (repetition, index))

    def test_leads_back_from_long_ranks(self):
        for sequence in WITH_REMOVALS:
            for rank in (10 ** 29, 10 ** 30 - 1, 123456789012345678901234567890, 987654321 * 10 ** 21 + 11):
                repetition, index = removal_of(sequence, rank)
                self.assertEqual(old_rank(sequence, repetition, index), rank)

    def test_one_repetition_more(self):
        # The element that is removed one repetition later comes, in one repetition, to this rank.
        for sequence in [*WITH_REMOVALS[:60], *LONG_RANKS]:
            first = [old_rank(sequence, 0, index) for index in removals(sequence)]
            for repetition in self.TIMES[:-1]:
                for index in removals(sequence):
                    later = old_rank(sequence, repetition + 1, index)
                    self.assertNotIn(later, first)
                    moved = later - sum(rank < later for rank in first)
                    self.assertEqual(moved, old_rank(sequence, repetition, index))

    def test_against_lost_ranks_of_repetitions(self):
        for sequence in [*WITH_REMOVALS[:40], *LONG_RANKS]:
            effect = Effect.of(sequence)
            below = min([0, *inserted(sequence)]) - 1
            for repetition in (0, 3, 10 ** 20, MOST - 1):
                for index in removals(sequence):
                    rank = old_rank(sequence, repetition, index)
                    self.assertTrue(Repetition(effect, repetition + 1).loses(below, rank))
                    self.assertFalse(Repetition(effect, repetition).loses(below, rank))

    def test_ranks_of_sixty_digits(self):
        long = 10 ** 59
        sequence = Sequence(("remove", 1), ("remove", long), INSERT)
        self.assertEqual([old_rank(sequence, 0, 1), old_rank(sequence, 1, 0), old_rank(sequence, MOST, 0)],
                         [long + 1, 2, MOST + 1])
        self.assertEqual(old_rank(sequence, 1, 1), long + 3)
        self.assertEqual(old_rank(sequence, MOST, 1), long + 1 + 2 * MOST)
        self.assertEqual(removal_of(sequence, long), (long - 1, 0))
        self.assertEqual(removal_of(sequence, long + 1), (0, 1))
        self.assertEqual(removal_of(sequence, long + 2), (long, 0))
        self.assertEqual(removal_of(sequence, long + 3), (1, 1))
        self.assertEqual(never_removed(sequence), 0)
        alone = Sequence(("remove", long))
        self.assertEqual([old_rank(alone, 0, 0), old_rank(alone, MOST, 0), never_removed(alone)],
                         [long, long + MOST, long - 1])
        self.assertEqual([removal_of(alone, long - 1), removal_of(alone, long), removal_of(alone, HUGE)],
                         [None, (0, 0), (HUGE - long, 0)])

    def test_ranks_of_a_hundred_digits(self):
        self.assertEqual(removal_of(Sequence(("remove", 1)), HUGE), (HUGE - 1, 0))
        self.assertEqual(removal_of(Sequence(("remove", 2), ("insert", 1)), HUGE), (HUGE - 2, 0))
        sequence = Sequence(("remove", 1), ("remove", 1), ("remove", 1))
        self.assertEqual(removal_of(sequence, HUGE), ((HUGE - 1) // 3, (HUGE - 1) % 3))
        self.assertEqual(old_rank(Sequence(("remove", HUGE)), MOST, 0), HUGE + MOST)
        self.assertEqual(never_removed(Sequence(("remove", HUGE), INSERT, ("remove", HUGE))), HUGE - 1)

    def test_many_steps(self):
        steps = [("remove", 1 + at * at * 10 ** 20) if at % 3 else ("insert", at) for at in range(200)]
        sequence = Sequence(*steps)
        for repetition in (0, 5, 10 ** 23, MOST):
            for index in (1, 2, 100, 199):
                rank = old_rank(sequence, repetition, index)
                self.assertEqual(removal_of(sequence, rank), (repetition, index))
        for rank in (10 ** 19, 10 ** 29, 10 ** 99 + 3):
            repetition, index = removal_of(sequence, 10 ** 20 + 1 + rank)
            if repetition <= MOST:
                self.assertEqual(old_rank(sequence, repetition, index), 10 ** 20 + 1 + rank)


class ErrorTest(unittest.TestCase):
    SEQUENCE = Sequence(("remove", 2), INSERT, ("remove", 1), INSERT)

    def test_repetitions(self):
        for value in [*NO_COUNTS, MOST + 1, HUGE]:
            check_raises(self, InvalidNumber, value, old_rank, self.SEQUENCE, value, 0)
            check_raises(self, InvalidNumber, value, old_rank, Sequence(), value, 0)

    def test_repetitions_come_first(self):
        for value in [*NO_COUNTS, MOST + 1]:
            for index in (1, 4, *NO_COUNTS):
                check_raises(self, InvalidNumber, value, old_rank, self.SEQUENCE, value, index)

    def test_indices(self):
        for repetition in (0, 1, MOST):
            for index in [*NO_COUNTS, 1, 3, 4, 5, HUGE]:
                check_raises(self, InvalidNumber, index, old_rank, self.SEQUENCE, repetition, index)
            for index in (0, 1, -1):
                check_raises(self, InvalidNumber, index, old_rank, Sequence(), repetition, index)
        # True and False are no indices, although the steps 1 and 0 are removals.
        sequence = Sequence(("remove", 1), ("remove", 1))
        for index in (True, False, -1, -2):
            check_raises(self, InvalidNumber, index, old_rank, sequence, 0, index)
            check_raises(self, InvalidNumber, index, old_rank, sequence, index, 0)

    def test_the_greatest_repetition(self):
        self.assertEqual(old_rank(Sequence(("remove", 1)), MOST, 0), MOST + 1)
        check_raises(self, InvalidNumber, MOST + 1, old_rank, Sequence(("remove", 1)), MOST + 1, 0)

    def test_ranks(self):
        for sequence in (self.SEQUENCE, Sequence(), Sequence(INSERT)):
            for value in [*NO_COUNTS, 0]:
                check_raises(self, InvalidNumber, value, removal_of, sequence, value)


class FormTest(unittest.TestCase):
    def test_kinds(self):
        sequence = Sequence(("remove", 2), INSERT)
        self.assertIs(type(old_rank(sequence, 3, 0)), int)
        removal = removal_of(sequence, 7)
        self.assertIs(type(removal), tuple)
        self.assertEqual([type(part) for part in removal], [int, int])
        self.assertIs(type(never_removed(sequence)), int)
        self.assertIs(type(never_removed(Sequence(("remove", 1)))), int)

    def test_by_name(self):
        sequence = Sequence(("remove", 2), INSERT, ("remove", 1))
        self.assertEqual(old_rank(index=2, repetition=4, sequence=sequence), old_rank(sequence, 4, 2))
        self.assertEqual(removal_of(rank=9, sequence=sequence), removal_of(sequence, 9))
        self.assertEqual(never_removed(sequence=sequence), 0)

    def test_shifted_numbers(self):
        for sequence in WITH_REMOVALS[:30]:
            other = shifted_sequence(sequence, -10 ** 50)
            for index in removals(sequence):
                self.assertEqual(old_rank(other, 10 ** 12, index), old_rank(sequence, 10 ** 12, index))
            self.assertEqual(removal_of(other, 10 ** 12), removal_of(sequence, 10 ** 12))
            self.assertEqual(never_removed(other), never_removed(sequence))

    def test_example(self):
        sequence = Sequence(("remove", 1), ("remove", 3))
        self.assertEqual([old_rank(sequence, 0, 1), old_rank(sequence, 2, 1), removal_of(sequence, 6),
                          never_removed(sequence), never_removed(Sequence(("remove", 3)))], [4, 8, (1, 1), 0, 2])


if __name__ == "__main__":
    unittest.main()
