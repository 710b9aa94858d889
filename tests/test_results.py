"""Tests of rankeffect.results: what stays in each gap between the breaks."""

import itertools
import unittest

from tests.drawing import drawn_sequences, outcome, shifted_sequence
from tests.odd_objects import HUGE, NO_INTEGERS, NOTHING_USUAL
from rankeffect.effects import Effect
from rankeffect.errors import InvalidNumber, RankError, StepFailed
from rankeffect.results import kept, kept_numbers
from rankeffect.sequences import Sequence

LONG = 10 ** 60
NO_COUNTS = [*NO_INTEGERS, -1, -HUGE, Effect.nothing()]

# The breaks are so far from each other that each gap has room for old elements.
SEQUENCES = [
    Sequence(),
    Sequence(("remove", 2), ("remove", 2)),
    Sequence(("insert", 100), ("remove", 2)),
    Sequence(("insert", 100), ("insert", 100), ("insert", -50), ("remove", 1), ("remove", 4)),
    *drawn_sequences(5, 60, 7, (-50, 0, 100), 5),
]


def effect_of(*steps):
    return Effect.of(Sequence(*steps))


def marked(effect, counts):
    """A list with so many old elements in each gap, each one different from the breaks."""
    below = effect.breaks[0] - 10 if effect.breaks else 0
    return [low + 1 for low, count in zip((below, *effect.breaks), counts) for _ in range(count)]


def by_running(sequence, counts):
    """What stays of the marked elements, and how many copies of the breaks there are then, or None."""
    effect = Effect.of(sequence)
    after = outcome(sequence, marked(effect, counts))
    if after is None:
        return None
    marks = marked(effect, [1] * len(counts))
    return [after.count(mark) for mark in marks], [after.count(number) for number in effect.breaks]


class KeptTest(unittest.TestCase):
    def test_against_marked_lists(self):
        for sequence in SEQUENCES:
            effect = Effect.of(sequence)
            for counts in itertools.product((0, 1, 2, 5), repeat=len(effect.tables)):
                self.check(sequence, list(counts), by_running(sequence, counts))

    def test_many_old_elements(self):
        for sequence in SEQUENCES:
            many = len(sequence.steps) + 100
            tables = len(Effect.of(sequence).tables)
            for gap in range(tables):
                counts = [3] * tables
                counts[gap] = many
                self.check(sequence, counts, by_running(sequence, counts))

    def check(self, sequence, counts, wanted):
        effect = Effect.of(sequence)
        if wanted is None:
            for given in (counts, tuple(counts)):
                with self.assertRaises(StepFailed) as caught:
                    kept(effect, given)
                self.assertIsNone(caught.exception.index)
            self.assertLess(sum(counts), effect.need)
        else:
            self.assertEqual(kept(effect, counts), wanted)
            self.assertEqual(kept(effect, tuple(counts)), wanted)
            self.assertGreaterEqual(sum(counts), effect.need)

    def test_neighboring_breaks(self):
        effect = effect_of(("insert", 5), ("insert", 6), ("insert", 6), ("remove", 2))
        self.assertEqual(kept(effect, [0, 0, 0]), ([0, 0, 0], [1, 1]))
        self.assertEqual(kept(effect, [1, 0, 2]), ([1, 0, 2], [0, 2]))
        self.assertEqual(kept(effect, [2, 0, 0]), ([1, 0, 0], [1, 2]))

    def test_long_counts_grow_where_they_are(self):
        # Once a gap has more elements than any rank, all others of them stay.
        for sequence in SEQUENCES:
            effect = Effect.of(sequence)
            for gap in range(len(effect.tables)):
                counts = [3] * len(effect.tables)
                counts[gap] = 50
                stay, copies = by_running(sequence, counts)
                counts[gap] += LONG
                stay[gap] += LONG
                self.assertEqual(kept(effect, counts), (stay, copies))

    def test_long_ranks(self):
        effect = effect_of(("insert", 5), ("remove", LONG), ("remove", 2 * LONG))
        self.assertEqual(kept(effect, [LONG, LONG]), ([LONG - 1, LONG - 1], [1]))
        self.assertEqual(kept(effect, [0, 2 * LONG]), ([0, 2 * LONG - 2], [1]))
        self.assertEqual(kept(effect, [LONG - 1, LONG + 1]), ([LONG - 1, LONG], [0]))
        self.assertEqual(kept(effect, [2 * LONG - 1, 1]), ([2 * LONG - 2, 0], [1]))
        self.assertEqual(kept(effect, [2 * LONG, 0]), ([2 * LONG - 1, 0], [0]))
        self.assertEqual(kept(effect, [3 * LONG, 7]), ([3 * LONG - 2, 7], [1]))
        with self.assertRaises(StepFailed):
            kept(effect, [LONG, LONG - 1])
        self.assertEqual(kept(effect_of(("remove", 1)), [HUGE]), ([HUGE - 1], []))

    def test_kinds(self):
        for counts in ([2, 3], (2, 3)):
            result = kept(effect_of(("insert", 5)), counts)
            self.assertIs(type(result), tuple)
            self.assertEqual([type(part) for part in result], [list, list])
            self.assertEqual({type(number) for part in result for number in part}, {int})

    def test_new_lists_and_no_changes(self):
        effect, counts = effect_of(("insert", 5)), [2, 3]
        first = kept(effect=effect, counts=counts)
        first[0].append(7)
        first[1].append(8)
        self.assertEqual(counts, [2, 3])
        self.assertEqual(kept(effect, counts), ([2, 3], [1]))
        empty = kept(Effect.nothing(), [0])
        self.assertEqual(empty, ([0], []))
        empty[1].append(1)
        self.assertEqual(kept(Effect.nothing(), [0]), ([0], []))

    def test_wrong_kinds_of_counts(self):
        for effect in (Effect.nothing(), effect_of(("insert", 5)), effect_of(("insert", 5), ("remove", HUGE))):
            for counts in [*NOTHING_USUAL, 0, 1, Effect.nothing(), iter([1, 1])]:
                self.check_refused(effect, counts)

    def test_other_lengths(self):
        for many in (0, 2, 3):
            self.check_refused(Effect.nothing(), [1] * many)
            self.check_refused(effect_of(("remove", HUGE)), (1,) * many)
        for many in (0, 1, 3, 4):
            self.check_refused(effect_of(("insert", 5)), [1] * many)
            self.check_refused(effect_of(("insert", 5), ("remove", HUGE)), (1,) * many)

    def test_wrong_counts(self):
        # The counts are looked at before the need of the effect.
        for effect in (effect_of(("insert", 5)), effect_of(("insert", 5), ("remove", 9))):
            for wrong in NO_COUNTS:
                for counts in ([wrong, 3], (3, wrong), [wrong, wrong], [wrong]):
                    self.check_refused(effect, counts)
        self.check_refused(effect_of(("insert", 5)), [-1, 5])
        self.check_refused(effect_of(("insert", 5)), [True, 1])

    def check_refused(self, effect, counts):
        with self.assertRaises(InvalidNumber) as caught:
            kept(effect, counts)
        self.assertIs(caught.exception.value, counts)

    def test_shifted_effects(self):
        for sequence in SEQUENCES[:30]:
            effect = Effect.of(sequence)
            counts = [7] * len(effect.tables)
            for offset in (9, -LONG):
                self.assertEqual(kept(effect.shifted(offset), counts), kept(effect, counts))


class KeptNumbersTest(unittest.TestCase):
    def test_against_lists(self):
        for sequence in [*SEQUENCES, *drawn_sequences(6, 60, 8, (1, 2, 3), 6)]:
            effect = Effect.of(sequence)
            for length in range(14):
                after = outcome(sequence, [1000] * length)
                if after is None:
                    with self.assertRaises(StepFailed) as caught:
                        kept_numbers(effect, length)
                    self.assertIsNone(caught.exception.index)
                    self.assertLess(length, effect.need)
                else:
                    wanted = [number for number in after if number < 1000]
                    self.assertEqual(kept_numbers(effect, length), wanted)

    def test_by_hand(self):
        effect = effect_of(("insert", 7), ("insert", 2), ("insert", 7), ("remove", 1), ("remove", 4))
        self.assertEqual(effect.need, 2)
        for length in (2, 3, 500, LONG, HUGE):
            self.assertEqual(kept_numbers(effect, length), [7, 7])
        self.assertEqual(kept_numbers(Effect.nothing(), 0), [])
        self.assertEqual(kept_numbers(effect_of(("insert", 1), ("insert", -1)), 0), [-1, 1])

    def test_long_needs(self):
        effect = effect_of(("insert", 5), ("remove", LONG + 1))
        self.assertEqual(kept_numbers(effect, LONG), [5])
        with self.assertRaises(StepFailed) as caught:
            kept_numbers(effect, LONG - 1)
        self.assertIsNone(caught.exception.index)

    def test_kinds_and_names(self):
        effect = effect_of(("insert", 5))
        result = kept_numbers(effect=effect, length=1)
        self.assertIs(type(result), list)
        result.append(6)
        self.assertEqual(kept_numbers(effect, 1), [5])

    def test_what_is_no_count(self):
        # The length is looked at before the need of the effect.
        for effect in (Effect.nothing(), effect_of(("insert", 5)), effect_of(("remove", 9))):
            for value in NO_COUNTS:
                with self.assertRaises(InvalidNumber) as caught:
                    kept_numbers(effect, value)
                self.assertIs(caught.exception.value, value)
                self.assertIsInstance(caught.exception, RankError)

    def test_shifted_effects(self):
        for sequence in SEQUENCES[:30]:
            effect = Effect.of(sequence)
            for offset in (9, -LONG):
                wanted = [number + offset for number in kept_numbers(effect, 20)]
                self.assertEqual(kept_numbers(effect.shifted(offset), 20), wanted)
                self.assertEqual(kept_numbers(Effect.of(shifted_sequence(sequence, offset)), 20), wanted)


class ExampleTest(unittest.TestCase):
    def test_example(self):
        effect = Effect.of(Sequence(("insert", 5), ("remove", 2)))
        self.assertEqual([kept(effect, [1, 0]), kept(effect, (0, 2)), kept_numbers(effect, 1)],
                         [([1, 0], [0]), ([0, 1], [1]), [5]])


if __name__ == "__main__":
    unittest.main()
