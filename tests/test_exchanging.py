"""Tests of rankeffect.exchanging: exchanged steps, normal forms, and sequences that exchanges connect."""

import itertools
import unittest

from tests.drawing import drawn_sequences, outcome, shifted_sequence
from tests.odd_objects import HUGE, NO_INTEGERS
from tests.raising import check_raises
from rankeffect.effects import Effect
from rankeffect.errors import InvalidNumber
from rankeffect.exchanging import exchanged, is_connected, normal_form
from rankeffect.sequences import Sequence

LONG = 10 ** 89  # a number with 90 digits
NO_INDICES = [*NO_INTEGERS, Sequence(), Effect.nothing(), -1, -2, -HUGE, HUGE]
SEQUENCES = [
    Sequence(("remove", 1), ("remove", 1), ("insert", 7), ("insert", 2)),
    Sequence(("insert", 5), ("insert", 5), ("insert", -3), ("insert", 5)),
    Sequence(("remove", 3), ("remove", 1), ("remove", 1), ("remove", 2), ("remove", 1)),
    Sequence(("remove", 2), ("insert", 4), ("remove", 2), ("insert", 4), ("insert", 3)),
    *drawn_sequences(901, 150, 10, (-3, 0, 4), 5),
]


def pair_exchanged(first, second):
    """Two neighboring steps as the rule of the document exchanges them, or None."""
    (word, one), (other_word, other) = first, second
    if word != other_word:
        return None
    if word == "insert":
        return [second, first]
    if other >= one:
        return [("remove", other + 1), ("remove", one)]
    return [("remove", other), ("remove", one - 1)]


def reached(steps):
    """All tuples of steps that exchanges lead to."""
    found = {steps}
    waiting = [steps]
    while waiting:
        steps = waiting.pop()
        for at in range(len(steps) - 1):
            pair = pair_exchanged(steps[at], steps[at + 1])
            if pair is not None:
                other = (*steps[:at], *pair, *steps[at + 2:])
                if other not in found:
                    found.add(other)
                    waiting.append(other)
    return found


def parts_of(steps):
    return [(word, list(part)) for word, part in itertools.groupby(steps, key=lambda step: step[0])]


def removed_elements(part):
    """The elements, named by their ranks at first, that neighboring removals remove, in this order."""
    old = list(range(1, 40))
    return [old.pop(rank - 1) for _, rank in part]


class ExchangedTest(unittest.TestCase):
    def test_every_index(self):
        for sequence in SEQUENCES:
            steps = sequence.steps
            for index in range(len(steps) - 1):
                pair = pair_exchanged(steps[index], steps[index + 1])
                found = exchanged(sequence, index)
                if pair is None:
                    self.assertIsNone(found)
                    continue
                self.assertIs(type(found), Sequence)
                self.assertEqual(found.steps, (*steps[:index], *pair, *steps[index + 2:]))
                self.assertEqual(Effect.of(found), Effect.of(sequence))
                self.assertEqual(exchanged(found, index), sequence)
                self.assertEqual(sequence.steps, steps)

    def test_same_results(self):
        for sequence in SEQUENCES[:60]:
            for index in range(len(sequence) - 1):
                found = exchanged(sequence, index)
                for numbers in ([], [4], [1, 9, 2, -6], [0] * 7, list(range(-8, 12))):
                    if found is not None:
                        self.assertEqual(outcome(found, numbers), outcome(sequence, numbers))

    def test_removals_of_long_ranks(self):
        cases = [((LONG, LONG), (LONG + 1, LONG)), ((LONG, LONG - 1), (LONG - 1, LONG - 1)),
                 ((LONG, LONG + 1), (LONG + 2, LONG)), ((LONG, 1), (1, LONG - 1)), ((1, LONG), (LONG + 1, 1)),
                 ((2 * LONG + 1, LONG), (LONG, 2 * LONG)), ((LONG, 3 * LONG), (3 * LONG + 1, LONG))]
        for (one, other), wanted in cases:
            sequence = Sequence(("insert", 3), ("remove", one), ("remove", other))
            found = exchanged(sequence, 1)
            self.assertEqual(found.steps, (("insert", 3), *[("remove", rank) for rank in wanted]))
            self.assertEqual(Effect.of(found), Effect.of(sequence))
            self.assertEqual(exchanged(found, 1), sequence)

    def test_insertions(self):
        sequence = Sequence(("insert", HUGE), ("insert", -HUGE), ("insert", -HUGE))
        self.assertEqual(exchanged(sequence, 0).steps, (("insert", -HUGE), ("insert", HUGE), ("insert", -HUGE)))
        self.assertEqual(exchanged(sequence, 1), sequence)
        self.assertIsNot(exchanged(sequence, 1), sequence)

    def test_an_insertion_and_a_removal(self):
        for number, rank in itertools.product((-HUGE, 0, 5), (1, 2, LONG)):
            first = Sequence(("insert", number), ("remove", rank))
            second = Sequence(("remove", rank), ("insert", number))
            self.assertIsNone(exchanged(first, 0))
            self.assertIsNone(exchanged(second, 0))
            self.assertNotEqual(Effect.of(first), Effect.of(second))

    def test_wrong_indices(self):
        for sequence in SEQUENCES[:30]:
            for index in [*NO_INDICES, len(sequence) - 1, len(sequence), len(sequence) + 1]:
                check_raises(self, InvalidNumber, index, exchanged, sequence, index)
        for sequence in (Sequence(), Sequence(("insert", 1)), Sequence(("remove", 1))):
            for index in (-1, 0, 1, True, False, None):
                check_raises(self, InvalidNumber, index, exchanged, sequence, index)
        # Even where the steps could not be exchanged.
        sequence = Sequence(("insert", 1), ("remove", 1))
        for index in (-2, -1, 1, 2, True, False):
            check_raises(self, InvalidNumber, index, exchanged, sequence, index)


class NormalFormTest(unittest.TestCase):
    def test_each_part(self):
        for sequence in SEQUENCES:
            found = normal_form(sequence)
            self.assertIs(type(found), Sequence)
            self.assertEqual([word for word, _ in found.steps], [word for word, _ in sequence.steps])
            for (word, old), (_, new) in zip(parts_of(sequence.steps), parts_of(found.steps)):
                if word == "insert":
                    self.assertEqual(new, sorted(old))
                else:
                    ranks = [rank for _, rank in new]
                    self.assertEqual(ranks, sorted(set(ranks), reverse=True))
                    self.assertEqual(sorted(removed_elements(new)), sorted(removed_elements(old)))
                    self.assertEqual(ranks, sorted(removed_elements(old), reverse=True))

    def test_same_effect_and_no_other_normal_form(self):
        for sequence in SEQUENCES:
            steps = sequence.steps
            found = normal_form(sequence)
            self.assertEqual(Effect.of(found), Effect.of(sequence))
            self.assertEqual(normal_form(found), found)
            self.assertEqual(sequence.steps, steps)

    def test_exchanges_lead_there(self):
        for sequence in drawn_sequences(902, 60, 5, (1, 2, 3), 4):
            self.assertIn(normal_form(sequence).steps, reached(sequence.steps))

    def test_simple_ones(self):
        self.assertEqual(normal_form(Sequence()), Sequence())
        sequence = Sequence(("insert", 3), ("insert", -HUGE), ("remove", LONG), ("remove", LONG), ("insert", 1))
        self.assertEqual(normal_form(sequence).steps, (("insert", -HUGE), ("insert", 3), ("remove", LONG + 1),
                                                       ("remove", LONG), ("insert", 1)))
        for step in (("insert", 5), ("remove", 5)):
            self.assertEqual(normal_form(Sequence(step)), Sequence(step))

    def test_many_steps(self):
        steps = [("insert", 200 - at) for at in range(70)] + [("remove", 1)] * 70 + [("insert", at % 7)
                                                                                      for at in range(60)]
        wanted = [("insert", 131 + at) for at in range(70)] + [("remove", 70 - at) for at in range(70)]
        wanted += sorted(("insert", at % 7) for at in range(60))
        self.assertEqual(normal_form(Sequence(*steps)), Sequence(*wanted))


class ConnectedTest(unittest.TestCase):
    def test_against_all_that_exchanges_reach(self):
        choices = [("insert", 1), ("insert", 2), ("remove", 1), ("remove", 2)]
        for length in range(4):
            everything = list(itertools.product(choices, repeat=length))
            for steps in everything:
                found = reached(steps)
                for other in everything:
                    self.assertIs(is_connected(Sequence(*steps), Sequence(*other)), other in found)

    def test_longer_ones(self):
        sequences = drawn_sequences(903, 150, 5, (1, 2), 3)
        for sequence in sequences:
            found = reached(sequence.steps)
            for steps in found:
                self.assertIs(is_connected(sequence, Sequence(*steps)), True)
            for other in sequences:
                self.assertIs(is_connected(sequence, other), other.steps in found)

    def test_another_length_or_step(self):
        sequence = Sequence(("remove", 2), ("remove", 2), ("insert", 4), ("insert", 1))
        others = [sequence + sequence, Sequence(), Sequence(*sequence.steps[:3]), Sequence(*sequence.steps[1:]),
                  Sequence(("remove", 2), ("remove", 2), ("insert", 4), ("insert", 2)),
                  Sequence(("remove", 2), ("remove", 1), ("insert", 4), ("insert", 1)),
                  Sequence(("insert", 4), ("insert", 1), ("remove", 2), ("remove", 2)),
                  Sequence(("remove", 2), ("insert", 4), ("remove", 2), ("insert", 1))]
        for other in others:
            self.assertIs(is_connected(sequence, other), False)
            self.assertIs(is_connected(other, sequence), False)

    def test_equal_effects_are_not_enough(self):
        # Both do the same, but no exchange leads from one to the other.
        first = Sequence(("insert", 1), ("remove", 1), ("remove", 1))
        second = Sequence(("remove", 1), ("insert", 1), ("remove", 1))
        self.assertIs(is_connected(first, second), False)
        one = Sequence(("insert", 5), ("remove", 1), ("insert", 5), ("remove", 1))
        other = Sequence(("insert", 5), ("insert", 5), ("remove", 1), ("remove", 1))
        self.assertIs(is_connected(one, other), False)

    def test_exactly_if_the_normal_forms_are_equal(self):
        sequences = drawn_sequences(904, 120, 4, (1, 2), 2)
        for first, second in itertools.product(sequences, sequences):
            self.assertIs(is_connected(first, second), normal_form(first) == normal_form(second))
            if is_connected(first, second):
                self.assertEqual(Effect.of(first), Effect.of(second))


class FormTest(unittest.TestCase):
    def test_by_name(self):
        sequence = Sequence(("remove", 1), ("remove", 1))
        self.assertEqual(exchanged(index=0, sequence=sequence), exchanged(sequence, 0))
        self.assertEqual(normal_form(sequence=sequence), normal_form(sequence))
        self.assertIs(is_connected(second=sequence, first=Sequence()), False)

    def test_shifted_numbers(self):
        for sequence in SEQUENCES[:40]:
            other = shifted_sequence(sequence, 10 ** 40)
            self.assertEqual(normal_form(other), shifted_sequence(normal_form(sequence), 10 ** 40))

    def test_example(self):
        sequence = Sequence(("remove", 1), ("remove", 1), ("insert", 7), ("insert", 2))
        self.assertEqual([exchanged(sequence, 0).steps[:2], exchanged(sequence, 1), normal_form(sequence).steps],
                         [(("remove", 2), ("remove", 1)), None,
                          (("remove", 2), ("remove", 1), ("insert", 2), ("insert", 7))])


if __name__ == "__main__":
    unittest.main()
