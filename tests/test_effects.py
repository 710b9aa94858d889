"""Tests of rankeffect.effects: the effects of sequences, and what can be done with effects."""

import itertools
import unittest

from tests.drawing import around, count_after, drawn_sequences, inserted, outcome, shifted_sequence, short_lists
from tests.odd_objects import HUGE, NO_INTEGERS, NOTHING_USUAL
from rankeffect.effects import Effect
from rankeffect.errors import InvalidEffect, InvalidList, InvalidNumber, RankError, StepFailed
from rankeffect.sequences import Sequence
from rankeffect.tables import Table

NONE = Table(0, ())
ONE = Table(1, ())
LESS = Table(0, (1,))
NO_NUMBERS = [*NO_INTEGERS, NONE, Sequence(), Effect.nothing()]

SEQUENCES = [
    Sequence(),
    Sequence(("insert", 5)),
    Sequence(("remove", 2)),
    Sequence(("insert", 5), ("insert", 5), ("remove", 1), ("insert", 4)),
    Sequence(("remove", 3), ("remove", 1), ("insert", 0), ("remove", 2)),
    *drawn_sequences(31, 150, 9, (-3, 0, 1, 4), 6),
]


def effect_of(*steps):
    return Effect.of(Sequence(*steps))


class OfTest(unittest.TestCase):
    def test_tables_count_as_the_steps_do(self):
        for sequence in SEQUENCES:
            effect = Effect.of(sequence)
            for threshold in around(inserted(sequence)):
                table = effect.table(threshold)
                self.assertEqual([table(count) for count in range(31)],
                                 [count_after(sequence, threshold, count) for count in range(31)])

    def test_breaks_are_where_the_tables_differ(self):
        for sequence in SEQUENCES:
            thresholds = range(-7, 9)
            counted = [[count_after(sequence, threshold, count) for count in range(31)] for threshold in thresholds]
            wanted = [high for high, below, here in zip(thresholds[1:], counted, counted[1:]) if below != here]
            effect = Effect.of(sequence)
            self.assertEqual(effect.breaks, tuple(wanted))
            self.assertEqual(effect.tables, tuple([effect.table(at) for at in (-100, *wanted)]))
            for threshold in thresholds[1:]:
                differs = effect.table(threshold - 1) != effect.table(threshold)
                self.assertEqual(differs, threshold in effect.breaks)

    def test_kinds(self):
        for sequence in SEQUENCES[:30]:
            effect = Effect.of(sequence)
            self.assertIs(type(effect), Effect)
            self.assertIs(type(effect.breaks), tuple)
            self.assertIs(type(effect.tables), tuple)
            self.assertEqual(len(effect.tables), len(effect.breaks) + 1)
            self.assertEqual({type(table) for table in effect.tables}, {Table})
            self.assertIs(type(effect.need), int)
            self.assertIs(type(effect.growth), int)

    def test_by_name_and_on_an_object(self):
        sequence = Sequence(("insert", 5))
        self.assertEqual(Effect.of(sequence=sequence), Effect([5], [NONE, ONE]))
        self.assertEqual(Effect.nothing().of(sequence), Effect([5], [NONE, ONE]))
        self.assertEqual(sequence.steps, (("insert", 5),))

    def test_nothing(self):
        effect = Effect.nothing()
        self.assertIs(type(effect), Effect)
        self.assertEqual((effect.breaks, effect.tables, effect.need, effect.growth), ((), (NONE,), 0, 0))
        self.assertEqual(effect, Effect.of(Sequence()))
        self.assertEqual(effect([3, 1]), [1, 3])
        self.assertIsNot(Effect.nothing(), effect)

    def test_an_inserted_number_is_a_break_even_if_it_is_removed(self):
        effect = effect_of(("insert", 5), ("remove", 1))
        self.assertEqual((effect.breaks, effect.tables), ((5,), (LESS, NONE)))

    def test_long_numbers_and_ranks(self):
        effect = effect_of(("insert", HUGE), ("insert", -HUGE), ("remove", HUGE), ("remove", HUGE - 1))
        self.assertEqual(effect.breaks, (-HUGE, HUGE))
        self.assertEqual(effect.tables, (Table(0, (HUGE - 1, HUGE)), Table(1, (HUGE - 2, HUGE - 1)),
                                         Table(2, (HUGE - 3, HUGE - 2))))
        self.assertEqual((effect.need, effect.growth), (HUGE - 2, 0))

    def test_many_steps(self):
        steps = [("insert", 7 * at) if at % 2 else ("remove", 1 + at * at % 150) for at in range(200)]
        sequence = Sequence(*steps)
        effect = Effect.of(sequence)
        self.assertEqual(effect.breaks, tuple(range(7, 1400, 14)))
        for threshold in (0, 7, 350, 700, 1393, 2000):
            table = effect.table(threshold)
            self.assertEqual([table(count) for count in range(300)],
                             [count_after(sequence, threshold, count) for count in range(300)])
        numbers = list(range(-100, 1500, 4))
        self.assertEqual(effect(numbers), sequence(numbers))


class ConstructionTest(unittest.TestCase):
    def test_breaks_and_tables(self):
        cases = [([], [NONE]), ((), (LESS,)), ([5], (NONE, ONE)), ((5,), [LESS, NONE]),
                 ([-HUGE, 0, HUGE], [NONE, ONE, NONE, ONE]), ((1, 2), (Table(3, ()), LESS, Table(0, (2, 3))))]
        for breaks, tables in cases:
            effect = Effect(breaks, tables)
            self.assertIs(type(effect.breaks), tuple)
            self.assertIs(type(effect.tables), tuple)
            self.assertEqual((effect.breaks, effect.tables), (tuple(breaks), tuple(tables)))

    def test_by_name(self):
        effect = Effect(tables=(NONE, ONE), breaks=[4])
        self.assertEqual((effect.breaks, effect.tables), ((4,), (NONE, ONE)))

    def test_wrong_kinds_of_breaks(self):
        for breaks in [*NOTHING_USUAL, 0, 5, NONE, Sequence(), Effect.nothing()]:
            for tables in ([NONE, ONE], (NONE,), [], None):
                self.check_refused(breaks, tables)

    def test_wrong_numbers_among_the_breaks(self):
        for wrong in NO_NUMBERS:
            self.check_refused([wrong], [NONE, ONE])
            self.check_refused((wrong, 5), (NONE, ONE, NONE))
            self.check_refused([1, wrong], [NONE, ONE, NONE])
        self.check_refused([True, 2], [NONE, ONE, NONE])
        self.check_refused([-1, False, 2], [NONE, ONE, NONE, ONE])

    def test_wrong_orders_of_breaks(self):
        for breaks in ([2, 1], (5, 5), [HUGE, -HUGE], [0, 0]):
            self.check_refused(breaks, [NONE, ONE, NONE])
        for breaks in ([1, 3, 2], (1, 2, 2), [1, 1, 2], [3, 1, 3]):
            self.check_refused(breaks, (NONE, ONE, NONE, ONE))

    def test_wrong_kinds_of_tables(self):
        for tables in [*NOTHING_USUAL, 0, NONE, Sequence(), Effect.nothing(), {NONE.lost: NONE}, iter([NONE])]:
            for breaks in ([], (5,), None):
                self.check_refused(breaks, tables)

    def test_other_objects_than_tables(self):
        for wrong in [*NO_INTEGERS, 0, (0, ()), [0, ()], Table, [NONE], Sequence(), Effect.nothing()]:
            self.check_refused([], [wrong])
            self.check_refused([5], [NONE, wrong])
            self.check_refused((5,), (wrong, NONE))
            self.check_refused([5, 6], [NONE, wrong, ONE])

    def test_wrong_numbers_of_tables(self):
        tables = [NONE, ONE, NONE, ONE, NONE]
        for breaks in ([], (5,), [1, 2], (-1, 0, 1)):
            for many in range(6):
                if many != len(breaks) + 1:
                    self.check_refused(breaks, tables[:many])
                    self.check_refused(breaks, tuple(tables[:many]))

    def test_equal_neighbors(self):
        self.check_refused([5], [NONE, NONE])
        self.check_refused((5,), (NONE, Table(0, [])))
        self.check_refused([5, 6], [Table(2, (1,)), Table(2, [1]), NONE])
        self.check_refused([5, 6], [NONE, ONE, Table(1, [])])

    def test_equal_tables_that_are_no_neighbors(self):
        self.assertEqual(Effect([5, 6], [NONE, ONE, NONE]).tables, (NONE, ONE, NONE))

    def check_refused(self, breaks, tables):
        with self.assertRaises(InvalidEffect) as caught:
            Effect(breaks, tables)
        value = caught.exception.value
        self.assertIs(type(value), tuple)
        self.assertEqual(len(value), 2)
        self.assertIs(value[0], breaks)
        self.assertIs(value[1], tables)

    def test_the_error_is_a_rank_error(self):
        with self.assertRaises(RankError):
            Effect([1], [])

    def test_later_changes_of_the_lists(self):
        breaks, tables = [5], [NONE, ONE]
        effect = Effect(breaks, tables)
        self.assertEqual((breaks, tables), ([5], [NONE, ONE]))
        breaks.append(6)
        breaks[0] = 4
        tables[1] = LESS
        tables.append(NONE)
        self.assertEqual((effect.breaks, effect.tables), ((5,), (NONE, ONE)))
        self.assertEqual((effect([4]), effect.need), ([4, 5], 0))
        self.assertEqual(effect, effect_of(("insert", 5)))


class TableTest(unittest.TestCase):
    def test_thresholds_around_the_breaks(self):
        effect = Effect((-4, 7), (NONE, ONE, Table(2, (3,))))
        wanted = {-HUGE: NONE, -5: NONE, -4: ONE, 0: ONE, 6: ONE, 7: Table(2, (3,)), HUGE: Table(2, (3,))}
        for threshold, table in wanted.items():
            self.assertEqual(effect.table(threshold), table)
            self.assertEqual(effect.table(threshold=threshold), table)

    def test_without_breaks(self):
        for threshold in (-HUGE, 0, HUGE):
            self.assertEqual(effect_of(("remove", 4)).table(threshold), Table(0, (4,)))

    def test_what_is_no_integer(self):
        for effect in (Effect.nothing(), effect_of(("insert", 5))):
            for value in NO_NUMBERS:
                with self.assertRaises(InvalidNumber) as caught:
                    effect.table(value)
                self.assertIs(caught.exception.value, value)


class CallTest(unittest.TestCase):
    def test_results_and_failures_on_short_lists(self):
        for sequence in SEQUENCES[:75]:
            effect = Effect.of(sequence)
            for numbers in short_lists(around(inserted(sequence)), 3):
                wanted = outcome(sequence, numbers)
                self.assertEqual(outcome(effect, numbers), wanted)
                self.assertEqual(wanted is None, len(numbers) < effect.need)

    def test_longer_lists(self):
        for sequence in SEQUENCES[75:]:
            effect = Effect.of(sequence)
            values = around(inserted(sequence))
            for size in range(4, 12):
                numbers = [values[(at * at + size) % len(values)] for at in range(size)]
                wanted = outcome(sequence, numbers)
                self.assertEqual(outcome(effect, numbers), wanted)
                self.assertEqual(outcome(effect, tuple(numbers)), wanted)
                self.assertEqual(wanted is None, size < effect.need)

    def test_equal_numbers(self):
        effect = effect_of(("insert", 5), ("insert", 5), ("remove", 2))
        self.assertEqual(effect([5, 5, 5]), [5, 5, 5, 5])
        self.assertEqual(effect((9, 9, 2, 2)), [2, 5, 5, 9, 9])
        self.assertEqual(effect([5]), [5, 5])

    def test_failures(self):
        effect = effect_of(("insert", 1), ("remove", 4))
        self.assertEqual(effect.need, 3)
        for numbers in ([], [1], (9, 9)):
            with self.assertRaises(StepFailed) as caught:
                effect(numbers)
            self.assertIsNone(caught.exception.index)
        self.assertEqual(effect([9, 9, 9]), [1, 9, 9])

    def test_long_needs(self):
        effect = effect_of(("remove", HUGE))
        with self.assertRaises(StepFailed) as caught:
            effect([1] * 500)
        self.assertIsNone(caught.exception.index)

    def test_what_is_no_list_of_numbers(self):
        wrong = [*NOTHING_USUAL, 0, 5, NONE, Sequence(), effect_of(("insert", 5)), [[]], [(1,)], "12", [1, "2"]]
        for value in [*wrong, *[[1, number] for number in NO_NUMBERS], *[(number,) for number in NO_NUMBERS]]:
            # The list is looked at before the need of the effect.
            for effect in (Effect.nothing(), effect_of(("insert", 5)), effect_of(("remove", 9))):
                with self.assertRaises(InvalidList) as caught:
                    effect(value)
                self.assertIs(caught.exception.value, value)

    def test_by_name_and_new_lists(self):
        effect = effect_of(("insert", 5), ("remove", 2))
        numbers = [9, 8, 1]
        result = effect(numbers=numbers)
        self.assertEqual((result, numbers), ([1, 8, 9], [9, 8, 1]))
        result.append(7)
        self.assertEqual(effect(numbers), [1, 8, 9])
        again = [1, 2]
        self.assertEqual(Effect.nothing()(again), [1, 2])
        self.assertIsNot(Effect.nothing()(again), again)

    def test_results_are_integers_in_ascending_order(self):
        effect = effect_of(("insert", HUGE), ("insert", -HUGE), ("insert", 0))
        result = effect((3, -3, HUGE + 1, 3))
        self.assertEqual(result, [-HUGE, -3, 0, 3, 3, HUGE, HUGE + 1])
        self.assertIs(type(result), list)
        self.assertEqual({type(number) for number in result}, {int})


class NeedAndGrowthTest(unittest.TestCase):
    def test_need_and_growth(self):
        for sequence in SEQUENCES:
            effect = Effect.of(sequence)
            words = [word for word, _ in sequence.steps]
            self.assertEqual(effect.growth, words.count("insert") - words.count("remove"))
            numbers = []
            while outcome(sequence, numbers) is None:
                numbers.append(2)
            self.assertEqual(effect.need, len(numbers))

    def test_by_hand(self):
        self.assertEqual((effect_of(("remove", 3)).need, effect_of(("remove", 3)).growth), (3, -1))
        self.assertEqual((effect_of(("insert", 1)).need, effect_of(("insert", 1)).growth), (0, 1))
        self.assertEqual(effect_of(("insert", 1), ("remove", 1)).need, 0)
        self.assertEqual(effect_of(("remove", 1), ("insert", 1)).need, 1)
        self.assertEqual(effect_of(("remove", 1), ("remove", 1), ("remove", 1)).need, 3)


class SumTest(unittest.TestCase):
    def test_joined_sequences(self):
        for first in SEQUENCES[:24]:
            for second in SEQUENCES[:24]:
                total = Effect.of(first) + Effect.of(second)
                self.assertIs(type(total), Effect)
                self.assertEqual(total, Effect.of(first + second))

    def test_one_after_the_other_on_lists(self):
        for first, second in zip(SEQUENCES[5:40], SEQUENCES[40:75]):
            total = Effect.of(first) + Effect.of(second)
            for numbers in short_lists((-4, 0, 1, 9), 4):
                middle = outcome(first, numbers)
                wanted = None if middle is None else outcome(second, middle)
                self.assertEqual(outcome(total, numbers), wanted)

    def test_associativity(self):
        effects = [Effect.of(sequence) for sequence in SEQUENCES[:14]]
        for first, second, third in itertools.product(effects, repeat=3):
            self.assertEqual((first + second) + third, first + (second + third))

    def test_the_order_matters(self):
        first, second = effect_of(("insert", 5)), effect_of(("remove", 1))
        self.assertEqual((first + second).tables, (LESS, NONE))
        self.assertEqual((second + first).tables, (LESS, Table(1, (1,))))

    def test_sums_with_nothing(self):
        for sequence in SEQUENCES[:30]:
            effect = Effect.of(sequence)
            for total in (effect + Effect.nothing(), Effect.nothing() + effect):
                self.assertEqual(total, effect)
                self.assertIsNot(total, effect)

    def test_operands_stay_as_they_are(self):
        first, second = effect_of(("insert", 5)), effect_of(("insert", 3), ("remove", 2))
        total = old = first
        total += second
        self.assertEqual((old.breaks, old.tables), ((5,), (NONE, ONE)))
        self.assertEqual((second.breaks, second.tables), ((3,), (Table(0, (2,)), LESS + ONE)))
        self.assertEqual(total.breaks, (3, 5))

    def test_long_ranks(self):
        first, second = effect_of(("insert", 5), ("remove", HUGE)), effect_of(("remove", HUGE - 1), ("insert", -HUGE))
        sequence = Sequence(("insert", 5), ("remove", HUGE), ("remove", HUGE - 1), ("insert", -HUGE))
        self.assertEqual(first + second, Effect.of(sequence))
        self.assertEqual((first + second).need, HUGE - 1)


class RepeatedTest(unittest.TestCase):
    def test_repeated_sequences(self):
        for sequence in SEQUENCES[:40]:
            for times in (0, 1, 2, 3, 5):
                product = Effect.of(sequence) * times
                self.assertIs(type(product), Effect)
                self.assertEqual(product, Effect.of(sequence * times))

    def test_twenty_times(self):
        for sequence in SEQUENCES[:40]:
            self.assertEqual(Effect.of(sequence) * 20, Effect.of(sequence * 20))

    def test_zero_and_one_times(self):
        effect = effect_of(("insert", 5), ("remove", 2))
        self.assertEqual(effect * 0, Effect.nothing())
        self.assertEqual(effect * 1, effect)
        self.assertIsNot(effect * 1, effect)
        self.assertEqual(Effect.nothing() * 20, Effect.nothing())
        self.assertEqual(effect, effect_of(("insert", 5), ("remove", 2)))

    def test_products_of_sums_of_times(self):
        for sequence in SEQUENCES[5:20]:
            effect = Effect.of(sequence)
            for times in (0, 1, 3, 8):
                self.assertEqual(effect * times + effect * 2, effect * (times + 2))


class ShiftedTest(unittest.TestCase):
    def test_shifted_sequences(self):
        for sequence in SEQUENCES[:60]:
            effect = Effect.of(sequence)
            for offset in (0, 1, -1, 7, -12, 10 ** 60 - 1, 1 - 10 ** 60):
                moved = effect.shifted(offset)
                self.assertIs(type(moved), Effect)
                self.assertEqual(moved, Effect.of(shifted_sequence(sequence, offset)))
                self.assertEqual((moved.need, moved.growth), (effect.need, effect.growth))
                self.assertEqual(moved.shifted(-offset), effect)

    def test_results_are_shifted(self):
        for sequence in SEQUENCES[5:25]:
            effect = Effect.of(sequence)
            for offset in (3, -10 ** 59):
                for numbers in short_lists((-4, 0, 2, 9), 3):
                    wanted = outcome(effect, numbers)
                    if wanted is not None:
                        wanted = [number + offset for number in wanted]
                    moved = [number + offset for number in numbers]
                    self.assertEqual(outcome(effect.shifted(offset), moved), wanted)

    def test_by_name_and_without_change(self):
        effect = effect_of(("insert", 5))
        self.assertEqual(effect.shifted(offset=-2).breaks, (3,))
        self.assertEqual(effect.breaks, (5,))

    def test_what_is_no_integer(self):
        for effect in (Effect.nothing(), effect_of(("insert", 5))):
            for value in NO_NUMBERS:
                with self.assertRaises(InvalidNumber) as caught:
                    effect.shifted(value)
                self.assertIs(caught.exception.value, value)


class TruthTest(unittest.TestCase):
    def test_only_the_effect_of_the_empty_sequence_is_false(self):
        for effect in (Effect.nothing(), Effect([], [Table(0, [])]), Effect.of(Sequence()), Effect.nothing() * 3):
            self.assertIs(bool(effect), False)
        for effect in (Effect((), (LESS,)), Effect((), (Table(0, (HUGE,)),)), Effect((5,), (NONE, ONE)),
                       Effect((5,), (LESS, NONE)), effect_of(("remove", 3), ("insert", 0))):
            self.assertIs(bool(effect), True)

    def test_drawn_sequences(self):
        for sequence in SEQUENCES:
            self.assertIs(bool(Effect.of(sequence)), len(sequence) > 0)


class EqualityTest(unittest.TestCase):
    def test_equal_effects(self):
        for sequence in SEQUENCES[:30]:
            one, two = Effect.of(sequence), Effect.of(sequence)
            self.assertIs(one == two, True)
            self.assertIs(one != two, False)
            self.assertIs(one == Effect(list(one.breaks), list(one.tables)), True)

    def test_different_sequences_with_equal_effects(self):
        self.assertEqual(effect_of(("remove", 1), ("remove", 1)), effect_of(("remove", 2), ("remove", 1)))
        self.assertEqual(effect_of(("insert", 2), ("insert", 1)), effect_of(("insert", 1), ("insert", 2)))
        self.assertNotEqual(effect_of(("insert", 1), ("remove", 1)), effect_of(("remove", 1), ("insert", 1)))

    def test_unequal_effects(self):
        effects = [Effect.nothing(), Effect((), (LESS,)), Effect((5,), (NONE, ONE)), Effect((6,), (NONE, ONE)),
                   Effect((5,), (LESS, ONE)), Effect((5,), (NONE, LESS)), Effect((5, 6), (NONE, ONE, NONE)),
                   Effect((5, 6), (NONE, ONE, Table(2, ()))), Effect((), (ONE,)), Effect((HUGE,), (NONE, ONE))]
        for one, two in itertools.combinations(effects, 2):
            self.assertIs(one == two, False)
            self.assertIs(two == one, False)
            self.assertIs(one != two, True)

    def test_effects_are_equal_exactly_if_all_results_are(self):
        lists = short_lists(range(-4, 6), 2) + short_lists((-4, 0, 2, 9), 6)
        found = {}
        for sequence in drawn_sequences(8, 120, 4, (-1, 3), 3):
            results = repr([outcome(sequence, numbers) for numbers in lists])
            found.setdefault(results, []).append(Effect.of(sequence))
        self.assertGreater(len(found), 20)
        for same in found.values():
            for effect in same:
                self.assertEqual(effect, same[0])
        for one, two in itertools.combinations(found.values(), 2):
            self.assertNotEqual(one[0], two[0])

    def test_objects_of_other_classes(self):
        for effect in (Effect.nothing(), effect_of(("insert", 5))):
            others = (None, False, True, 0, (), [], "", {}, object(), Effect, Sequence(), NONE, effect.tables[0],
                      (effect.breaks, effect.tables), [effect.breaks, effect.tables], Sequence(("insert", 5)))
            for other in others:
                self.assertIs(effect == other, False)
                self.assertIs(effect != other, True)
                self.assertIs(other == effect, False)


class ExampleTest(unittest.TestCase):
    def test_example(self):
        effect = Effect.of(Sequence(("insert", 5), ("remove", 2)))
        tables = [(table.start, table.lost) for table in effect.tables]
        self.assertEqual([effect.breaks, tables, effect.need, effect.growth, effect([9]), effect([3])],
                         [(5,), [(0, (2,)), (1, (1,))], 1, 0, [5], [3]])


if __name__ == "__main__":
    unittest.main()
