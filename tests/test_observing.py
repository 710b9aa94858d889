"""Tests of rankeffect.observing: the sequences that agree with facts, and the list that separates sequences best."""

import itertools
import random
import unittest

from tests.drawing import drawn_sequences, outcome
from tests.odd_objects import HUGE, NO_INTEGERS, NOTHING_USUAL
from tests.raising import check_raises
from rankeffect.effects import Effect
from rankeffect.errors import InvalidFacts, InvalidList
from rankeffect.observing import agreeing, best_list
from rankeffect.sequences import Sequence

NO_NUMBERS = [*NO_INTEGERS, Sequence(), Effect.nothing()]
NO_LISTS = [*NOTHING_USUAL, 0, 7, "", Sequence(), Effect.nothing(), [[]], [()], *[[number] for number in NO_NUMBERS],
            *[(1, number, 2) for number in NO_NUMBERS]]
SEQUENCES = [Sequence(("remove", 1)), Sequence(("remove", 2)), Sequence(("insert", 3), ("remove", 1))]


def drawn_list(chance, most=6):
    return [chance.randint(-4, 6) for _ in range(chance.randint(0, most))]


def shuffled(chance, numbers):
    """The same elements in any order, as a list or a tuple."""
    kind = chance.choice([list, tuple])
    return kind(chance.sample(list(numbers), len(numbers)))


def greatest_group(sequences, numbers):
    results = [outcome(sequence, numbers) for sequence in sequences]
    return max([results.count(result) for result in results], default=0)


class AgreeingTest(unittest.TestCase):
    def check_all(self, sequences, facts):
        wanted = [index for index, sequence in enumerate(sequences)
                  if all(outcome(sequence, before) == (None if after is None else sorted(after))
                         for before, after in facts)]
        for one, other in itertools.product((list, tuple), repeat=2):
            found = agreeing(one(sequences), other(facts))
            self.assertIs(type(found), list)
            self.assertEqual(found, wanted)
            self.assertEqual({type(index) for index in found} | {int}, {int})
        return wanted

    def test_drawn_facts(self):
        chance = random.Random(1201)
        many = 0
        for seed in range(120):
            sequences = drawn_sequences(seed, 25, 4, (-3, 0, 5), 3)
            truth = chance.choice(sequences)
            facts = []
            for _ in range(chance.randint(0, 4)):
                before = drawn_list(chance)
                after = outcome(chance.choice([truth, truth, truth, chance.choice(sequences)]), before)
                facts.append((shuffled(chance, before), None if after is None else shuffled(chance, after)))
            many += len(self.check_all(sequences, facts))
        self.assertGreater(many, 200)

    def test_every_sequence_agrees_with_its_results(self):
        chance = random.Random(1202)
        for sequence in drawn_sequences(1203, 60, 6, (1, 4), 4):
            lists = [drawn_list(chance, 8) for _ in range(5)]
            facts = [(numbers, outcome(sequence, numbers)) for numbers in lists]
            self.assertEqual(agreeing([sequence], facts), [0])
            for at, (before, after) in enumerate(facts):
                wrong = [*facts[:at], (before, [0] if after is None else [*after, 4]), *facts[at + 1:]]
                self.assertEqual(agreeing([sequence], wrong), [])
                wrong = [*facts[:at], (before, [] if after is None else None), *facts[at + 1:]]
                self.assertEqual(agreeing([sequence], wrong), [])

    def test_failing(self):
        self.assertEqual(agreeing(SEQUENCES, [([], None)]), [0, 1])
        self.assertEqual(agreeing(SEQUENCES, [([], [])]), [2])
        self.assertEqual(agreeing(SEQUENCES, [([1], []), ([], None)]), [0])
        self.assertEqual(agreeing(SEQUENCES, [((), None), ((4,), None)]), [1])
        self.assertEqual(agreeing([Sequence()], [([], ())]), [0])
        self.assertEqual(agreeing([Sequence()], [([], None)]), [])

    def test_any_order_and_equal_numbers(self):
        self.assertEqual(agreeing(SEQUENCES, [((9, 1, 9, 5), (9, 5, 9))]), [0])
        self.assertEqual(agreeing(SEQUENCES, [([9, 1, 9, 5], [9, 5])]), [])
        self.assertEqual(agreeing(SEQUENCES, [([2, 2, 2], [2, 2])]), [0, 1])
        self.assertEqual(agreeing(SEQUENCES, [([2, 2, 2], (3, 2, 2))]), [2])
        self.assertEqual(agreeing(SEQUENCES, [([2, 2, 2], [2, 3, 3])]), [])

    def test_no_sequences_and_no_facts(self):
        for facts in ([], (), [([1], [1])], [([], None)]):
            self.assertEqual(agreeing([], facts), [])
            self.assertEqual(agreeing((), facts), [])
        for facts in ([], ()):
            self.assertEqual(agreeing(SEQUENCES, facts), [0, 1, 2])

    def test_equal_sequences_all_agree(self):
        self.assertEqual(agreeing([Sequence(), Sequence(("remove", 1)), Sequence()], [([1, HUGE], [HUGE, 1])]), [0, 2])

    def test_long_lists(self):
        numbers = [(at * 37) % 500 - 250 for at in range(500)]
        sequence = Sequence(*[("remove", 1 + at) for at in range(200)])
        self.assertEqual(agreeing([sequence, Sequence()], [(numbers, sequence(numbers)[::-1])]), [0])


class BestListTest(unittest.TestCase):
    def test_drawn_lists(self):
        chance = random.Random(1204)
        seen = {}
        for seed in range(150):
            sequences = drawn_sequences(seed, chance.randint(1, 9), 4, (0, 3), 3)
            lists = [shuffled(chance, drawn_list(chance, 4)) for _ in range(chance.randint(1, 7))]
            sizes = [greatest_group(sequences, numbers) for numbers in lists]
            found = best_list(sequences, lists)
            self.assertIs(type(found), int)
            self.assertEqual(found, sizes.index(min(sizes)))
            self.assertEqual(best_list(tuple(sequences), tuple(lists)), found)
            # Guarantee (i): no other given list separates them better.
            self.assertTrue(all(sizes[found] <= size for size in sizes))
            seen[found] = True
        self.assertGreater(len(seen), 4)

    def test_ties_go_to_the_least_index(self):
        self.assertEqual(best_list(SEQUENCES, [[5], [4], [6]]), 0)
        self.assertEqual(best_list(SEQUENCES, [[], [5], [4]]), 1)
        self.assertEqual(best_list(SEQUENCES, [[2, 2], (), [7, 6], [6, 7], [8, 9, 10]]), 2)
        self.assertEqual(best_list([Sequence()], [[1], [], [2]]), 0)

    def test_failing_is_one_result(self):
        removals = [Sequence(("remove", 3)), Sequence(("remove", 4)), Sequence(("insert", 1), ("remove", 9)),
                    Sequence(("remove", 1))]
        # Three of four fail on the first list, and all of them on the empty one.
        self.assertEqual(best_list(removals, [[7, 8], []]), 0)
        self.assertEqual(best_list(removals, [[], [7, 8]]), 1)
        self.assertEqual(best_list(removals, [[], [7], [7, 8, 9]]), 2)
        # That a sequence fails is not the same as that its result is empty.
        self.assertEqual(best_list([Sequence(("remove", 1)), Sequence(("remove", 2))], [[5, 5], [5]]), 1)

    def test_groups_in_any_place(self):
        first, second = Sequence(("insert", 1)), Sequence(("insert", 2))
        group = [first, second, second, first, second, Sequence(("remove", 1))]
        self.assertEqual(best_list(group, [[], [1]]), 0)
        self.assertEqual(best_list([Sequence(("remove", 1)), Sequence(("remove", 2)), Sequence(("remove", 2))],
                                   [[4, 4], [4, 5]]), 1)

    def test_no_sequences(self):
        for sequences in ([], ()):
            self.assertEqual(best_list(sequences, [[1], [2]]), 0)
            self.assertEqual(best_list(sequences, ((),)), 0)
            self.assertIsNone(best_list(sequences, []))

    def test_no_lists(self):
        for lists in ([], ()):
            self.assertIsNone(best_list(SEQUENCES, lists))


class ErrorTest(unittest.TestCase):
    def check_facts(self, facts):
        for sequences in ([], SEQUENCES):
            check_raises(self, InvalidFacts, facts, agreeing, sequences, facts)

    def test_no_list_of_facts(self):
        for facts in [*NOTHING_USUAL, 0, 1, "", "ab", Sequence(), Effect.nothing(), {((), ()): 1}, {((), None)},
                      iter([([], [])]), zip([[]], [[]])]:
            self.check_facts(facts)

    def test_no_facts(self):
        wrong = [*NO_NUMBERS, 0, 1, [[1], [1]], [[], None], ([],), ([], [], []), ([1], None, None), "ab", (([], []),),
                 [([], [])]]
        for fact in wrong:
            self.check_facts([fact])
            self.check_facts((fact,))
            self.check_facts([([1], [1]), fact])
            self.check_facts((fact, ([], None)))

    def test_lists_before(self):
        for before in NO_LISTS:
            self.check_facts([(before, [1])])
            self.check_facts(((before, None),))
            self.check_facts([([], []), (before, [])])
        self.check_facts([(None, None)])
        self.check_facts([(None, [1])])

    def test_lists_after(self):
        for after in NO_LISTS:
            if after is not None:
                self.check_facts([([1], after)])
                self.check_facts((((), after), ([], [])))

    def test_a_wrong_fact_behind_one_with_which_none_agrees(self):
        self.check_facts([([1], [1, 2, 3]), ([1], [True])])

    def test_lists(self):
        for sequences in ([], SEQUENCES):
            for lists in [*NOTHING_USUAL, 0, 1, "", "ab", Sequence(), {(): 1}, {()}, iter([[]]), [1, 2], (3,)]:
                check_raises(self, InvalidList, lists, best_list, sequences, lists)
            for numbers in NO_LISTS:
                for lists in ([numbers], (numbers,), [[1], numbers], ([], numbers, [2])):
                    check_raises(self, InvalidList, lists, best_list, sequences, lists)


class FormTest(unittest.TestCase):
    def test_by_name(self):
        self.assertEqual(agreeing(facts=[([1, 5], [5])], sequences=SEQUENCES), [0])
        self.assertEqual(best_list(lists=[[], [4], [2, 6]], sequences=SEQUENCES), 1)

    def test_nothing_changes(self):
        before, after = [5, 1], [5]
        sequences, facts, lists = list(SEQUENCES), [(before, after)], [before, [3, 2]]
        found = agreeing(sequences, facts)
        best_list(sequences, lists)
        self.assertEqual((sequences, facts, lists), (SEQUENCES, [([5, 1], [5])], [[5, 1], [3, 2]]))
        found.append(9)
        self.assertEqual(agreeing(sequences, facts), [0])
        self.assertIsNot(agreeing([], []), agreeing([], []))

    def test_example(self):
        self.assertEqual([agreeing(SEQUENCES, [([1, 5], [5])]), agreeing(SEQUENCES, [([], None)]),
                          best_list(SEQUENCES, [[], [4], [2, 6]])], [[0], [0, 1], 1])


if __name__ == "__main__":
    unittest.main()
