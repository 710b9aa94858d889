"""Tests of rankeffect.comparing: lists that separate effects, and the first difference of their tables."""

import itertools
import unittest

from tests.drawing import count_after, drawn_sequences, inserted, outcome, short_lists
from tests.odd_objects import HUGE, NO_INTEGERS, NOTHING_USUAL
from rankeffect.comparing import first_difference, is_separating, separating_list
from rankeffect.effects import Effect
from rankeffect.errors import LimitExceeded
from rankeffect.sequences import Sequence
from rankeffect.tables import Table

INSERT = ("insert", 5)
# The results differ only if a list has as many elements below 5 as the second number tells.
LATE_PAIRS = [
    (Sequence(INSERT, ("remove", 502)), Sequence(("remove", 501), INSERT), 501),
    (Sequence(INSERT, ("remove", 501)), Sequence(("remove", 500), INSERT), 500),
    (Sequence(INSERT, INSERT, ("remove", 502)), Sequence(INSERT, ("remove", 501), INSERT), 501),
    (Sequence(INSERT, INSERT, ("remove", 501)), Sequence(INSERT, ("remove", 500), INSERT), 500),
    (Sequence(INSERT, INSERT, ("remove", HUGE)), Sequence(INSERT, ("remove", HUGE - 1), INSERT), HUGE - 1),
    (Sequence(INSERT, INSERT, ("remove", 3)), Sequence(INSERT, ("remove", 2), INSERT), 2),
]


def effect_of(*steps):
    return Effect.of(Sequence(*steps))


def drawn_pairs():
    """Pairs of sequences, many of them with effects that are equal or nearly so."""
    sequences = drawn_sequences(17, 150, 5, (0, 3), 3) + drawn_sequences(18, 50, 4, (2,), 2)
    pairs = list(zip(sequences, sequences[1:]))
    for sequence in sequences[:60]:
        steps = sequence.steps
        pairs.append((sequence, sequence))
        pairs.append((sequence, Sequence(*reversed(steps))))
        pairs.extend([(sequence, Sequence(*steps[1:], *steps[:1])), (sequence, sequence + Sequence(("remove", 1)))])
    return pairs


def searched_difference(first, second):
    """The first difference, found by counting with all thresholds around the breaks."""
    breaks = sorted({*inserted(first), *inserted(second)})
    thresholds = range(min([0, *breaks]) - 2, max([0, *breaks]) + 3)
    for count in range(40):
        differing = [at for at in thresholds if count_after(first, at, count) != count_after(second, at, count)]
        if differing:
            among = [at for at in breaks if at in differing]
            below = breaks[0] - 1 if breaks else 0
            return (among[0] if among else below, count)
    return None


class SeparatingListTest(unittest.TestCase):
    def test_none_exactly_for_equal_effects(self):
        equal = 0
        for first, second in drawn_pairs():
            one, two = Effect.of(first), Effect.of(second)
            equal += one == two
            self.assertEqual(separating_list(one, two) is None, one == two)
        self.assertGreater(equal, 60)

    def test_the_list_separates_and_no_shorter_one_does(self):
        for first, second in drawn_pairs():
            one, two = Effect.of(first), Effect.of(second)
            found = separating_list(one, two)
            breaks = [0, *one.breaks, *two.breaks]
            values = [*breaks, min(breaks) - 1, max(breaks) + 1]
            if found is None:
                shorter = short_lists(values, 4)
            else:
                self.assertNotEqual(outcome(first, found), outcome(second, found))
                self.assertNotEqual(outcome(one, found), outcome(two, found))
                shorter = short_lists(values, len(found) - 1)
            for numbers in shorter:
                self.assertEqual(outcome(first, numbers), outcome(second, numbers))

    def test_lists_of_integers_in_ascending_order(self):
        for first, second in drawn_pairs():
            found = separating_list(Effect.of(first), Effect.of(second))
            if found is not None:
                self.assertIs(type(found), list)
                self.assertEqual({type(number) for number in found} - {int}, set())
                self.assertEqual(found, sorted(found))

    def test_exactly_one_fails(self):
        for rank in (1, 2, 7, 499, 500):
            found = separating_list(effect_of(("remove", rank)), effect_of(("remove", rank + 1)))
            self.assertEqual(len(found), rank)
            found = separating_list(effect_of(("remove", HUGE)), effect_of(("remove", rank)))
            self.assertEqual(len(found), rank)
        self.assertEqual(separating_list(effect_of(("remove", HUGE)), Effect.nothing()), [])

    def test_both_succeed(self):
        for first, second, count in LATE_PAIRS:
            if count <= 500:
                one, two = Effect.of(first), Effect.of(second)
                for found in (separating_list(one, two), separating_list(two, one)):
                    self.assertEqual(len(found), count)
                    self.assertNotEqual(first(found), second(found))

    def test_differences_above_fewer_elements_than_needed(self):
        first, second = Sequence(INSERT, ("remove", 4)), Sequence(("insert", 7), ("remove", 4))
        found = separating_list(Effect.of(first), Effect.of(second))
        self.assertEqual(len(found), 3)
        self.assertNotEqual(first(found), second(found))

    def test_limit(self):
        pairs = [(effect_of(("remove", 501)), effect_of(("remove", 502))),
                 (effect_of(("remove", HUGE)), effect_of(("remove", HUGE - 1))),
                 (effect_of(("remove", 501)), effect_of(INSERT, ("remove", 503))),
                 (effect_of(INSERT, ("remove", HUGE)), effect_of(("insert", 6), ("remove", HUGE)))]
        pairs.extend([(Effect.of(first), Effect.of(second)) for first, second, count in LATE_PAIRS if count > 500])
        for one, two in pairs:
            for first, second in ((one, two), (two, one)):
                with self.assertRaises(LimitExceeded) as caught:
                    separating_list(first, second)
                self.assertEqual(caught.exception.limit, 500)

    def test_equal_effects_with_long_ranks(self):
        self.assertIsNone(separating_list(effect_of(("remove", HUGE)), effect_of(("remove", HUGE))))

    def test_new_lists(self):
        one, two = effect_of(("remove", 2)), effect_of(("remove", 3))
        separating_list(one, two).append(7)
        self.assertEqual(len(separating_list(first=one, second=two)), 2)


class FirstDifferenceTest(unittest.TestCase):
    def test_against_a_search(self):
        for first, second in drawn_pairs():
            found = first_difference(Effect.of(first), Effect.of(second))
            self.assertEqual(found, searched_difference(first, second))
            self.assertEqual(first_difference(Effect.of(second), Effect.of(first)), found)

    def test_without_breaks(self):
        self.assertEqual(first_difference(Effect.nothing(), effect_of(("remove", 3))), (0, 3))
        self.assertEqual(first_difference(effect_of(("remove", 4)), effect_of(("remove", 3))), (0, 3))
        self.assertIsNone(first_difference(effect_of(("remove", 3)), effect_of(("remove", 3))))

    def test_ties(self):
        # With the same count at all thresholds, the least break goes before the others and before what is below it.
        inserts = (("insert", 8), ("insert", 5), ("insert", 11))
        one, two = effect_of(("remove", 3), *inserts), effect_of(("remove", 2), *inserts)
        self.assertEqual(first_difference(one, two), (5, 2))
        one, two = effect_of(("remove", 3), ("insert", 5)), effect_of(("remove", 2), ("insert", 5))
        self.assertEqual(first_difference(one, two), (5, 2))
        one, two = effect_of(("insert", 9)), effect_of(("insert", 7))
        self.assertEqual(first_difference(one, two), (7, 0))

    def test_the_least_count_goes_before_the_least_threshold(self):
        one, two = effect_of(INSERT, ("insert", 8), ("remove", 9)), effect_of(INSERT, ("insert", 8))
        self.assertEqual(first_difference(one, two), (8, 7))

    def test_only_below_all_breaks(self):
        for first, second, count in LATE_PAIRS:
            self.assertEqual(first_difference(Effect.of(first), Effect.of(second)), (4, count))

    def test_at_a_break_of_one_effect(self):
        one, two = effect_of(("insert", 3), ("remove", 1)), effect_of(("insert", -8), ("remove", 1))
        self.assertEqual(first_difference(one, two), (-8, 1))
        self.assertEqual(first_difference(two, one), (-8, 1))

    def test_constructed_effects(self):
        none, one, less = Table(0, ()), Table(1, ()), Table(0, (1,))
        cases = [
            (Effect((), (one,)), Effect((), (none,)), (0, 0)),
            (Effect((1, 2), (none, one, none)), Effect((1, 3), (none, one, none)), (2, 0)),
            (Effect((1,), (less, none)), Effect((1,), (none, less)), (1, 1)),
            (Effect((1,), (Table(0, (2,)), none)), Effect((4,), (Table(0, (2, 6)), none)), (1, 2)),
            (Effect((1,), (Table(0, (2,)), none)), Effect((1,), (Table(0, (2, 6)), none)), (0, 6)),
            (Effect((1,), (none, less)), Effect((1,), (none, Table(3, (1,)))), (1, 0)),
            (Effect((1,), (none, Table(0, (HUGE,)))), Effect((-HUGE,), (Table(0, (1,)), none)), (-HUGE - 1, 1)),
            (Effect((1, 2), (none, one, none)), Effect((1, 2), (none, one, none)), None),
        ]
        for first, second, wanted in cases:
            self.assertEqual(first_difference(first, second), wanted)
            self.assertEqual(first_difference(first=second, second=first), wanted)

    def test_long_ranks(self):
        one, two = effect_of(("remove", HUGE)), effect_of(("remove", HUGE - 1))
        self.assertEqual(first_difference(one, two), (0, HUGE - 1))
        self.assertEqual(first_difference(one, Effect.nothing()), (0, HUGE))

    def test_kinds(self):
        found = first_difference(effect_of(INSERT), Effect.nothing())
        self.assertIs(type(found), tuple)
        self.assertEqual(found, (5, 0))


class IsSeparatingTest(unittest.TestCase):
    def test_lists(self):
        for first, second in drawn_pairs()[::3]:
            one, two = Effect.of(first), Effect.of(second)
            for numbers in short_lists((-1, 0, 1, 3, 4), 4):
                wanted = outcome(first, numbers) != outcome(second, numbers)
                self.assertIs(is_separating(one, two, numbers), wanted)

    def test_any_order_and_tuples(self):
        one, two = effect_of(INSERT, ("remove", 2)), effect_of(INSERT, ("remove", 1))
        for numbers in ([9, 1], [1, 9], [5, 5, 0], [7, 5, 5, 9]):
            wanted = outcome(one, numbers) != outcome(two, numbers)
            self.assertIs(is_separating(one, two, numbers), wanted)
            self.assertIs(is_separating(one, two, tuple(numbers)), wanted)
        self.assertEqual(is_separating(first=one, second=two, value=[9, 1]), True)
        numbers = [9, 1]
        is_separating(one, two, numbers)
        self.assertEqual(numbers, [9, 1])

    def test_failures(self):
        one, two = effect_of(("remove", 2)), effect_of(("remove", 3))
        self.assertEqual([is_separating(one, two, [1] * many) for many in range(5)], [False, False, True, False, False])
        one, two = effect_of(INSERT, ("remove", 4)), effect_of(("insert", 6), ("remove", 4))
        self.assertEqual([is_separating(one, two, [0] * many) for many in range(5)], [False, False, False, False, True])
        self.assertIs(is_separating(effect_of(("remove", HUGE)), Effect.nothing(), []), True)

    def test_equal_effects(self):
        for numbers in ([], [1], [5, 5, 5], list(range(500))):
            self.assertIs(is_separating(effect_of(INSERT), effect_of(INSERT), numbers), False)

    def test_what_is_no_list_of_numbers(self):
        pairs = [(effect_of(INSERT), Effect.nothing()), (effect_of(("remove", 1)), Effect.nothing()),
                 (Effect.nothing(), Effect.nothing())]
        wrong = [*NOTHING_USUAL, 0, 5, Sequence(), Effect.nothing(), [[]], [(1,)], (1, "2"), iter([])]
        wrong.extend([[number] for number in NO_INTEGERS])
        wrong.extend([(1, number) for number in NO_INTEGERS])
        for one, two in pairs:
            for value in wrong:
                self.assertIs(is_separating(one, two, value), False)

    def test_separating_lists_separate(self):
        for first, second in drawn_pairs():
            one, two = Effect.of(first), Effect.of(second)
            found = separating_list(one, two)
            self.assertIs(is_separating(one, two, found), found is not None)


class ShiftedTest(unittest.TestCase):
    def test_differences_are_shifted(self):
        for (first, second), offset in itertools.product(drawn_pairs()[:60], (4, -3, 10 ** 60)):
            one, two = Effect.of(first), Effect.of(second)
            found = first_difference(one, two)
            if found is not None and (one.breaks or two.breaks):
                moved = first_difference(one.shifted(offset), two.shifted(offset))
                self.assertEqual(moved, (found[0] + offset, found[1]))
                numbers = [number + offset for number in separating_list(one, two)]
                self.assertIs(is_separating(one.shifted(offset), two.shifted(offset), numbers), True)


class ExampleTest(unittest.TestCase):
    def test_example(self):
        first = Effect.of(Sequence(("insert", 5), ("remove", 2)))
        second = Effect.of(Sequence(("insert", 5), ("remove", 1)))
        self.assertEqual([first_difference(first, second), len(separating_list(first, second)),
                          separating_list(first, first)], [(5, 0), 0, None])


if __name__ == "__main__":
    unittest.main()
