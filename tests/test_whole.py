"""Tests of what the document promises over the whole program: the general rules [2] and the guarantees [3]."""

import copy
import itertools
import random
import unittest

from tests.drawing import around, drawn_sequences, inserted, outcome, shifted_sequence, short_lists
from tests.log_model import USERS, drawn_action, done
from tests.odd_objects import HUGE, Greedy, Loud
from tests.raising import FIELDS, check_raises
from rankeffect import errors
from rankeffect.comparing import first_difference, is_separating, separating_list
from rankeffect.console import Console
from rankeffect.effects import Effect
from rankeffect.exchanging import exchanged, is_connected, normal_form
from rankeffect.formats import effect_grid, format_effect, format_sequence, parse_effect, parse_sequence
from rankeffect.logs import Log
from rankeffect.observing import agreeing, best_list
from rankeffect.removing import never_removed, old_rank, removal_of
from rankeffect.repeating import Repetition
from rankeffect.results import kept, kept_numbers
from rankeffect.searching import count_sequences, first_sequence
from rankeffect.sequences import Sequence
from rankeffect.tables import Table
from rankeffect.tops import resolved

MOST = 10 ** 30
SEQUENCE = Sequence(("insert", 5), ("remove", 2), ("insert", 3))
OTHER = Sequence(("insert", 5), ("remove", 1))
EFFECT, OTHER_EFFECT = Effect.of(SEQUENCE), Effect.of(OTHER)
SEQUENCES = drawn_sequences(1601, 60, 6, (0, 3), 4)
ODD = [Loud(), Greedy(), None, True, object()]


def seen(value):
    """What can be seen of a value, in a form that can be compared."""
    if isinstance(value, (list, tuple)):
        return type(value), [seen(part) for part in value]
    if isinstance(value, Repetition):
        return Repetition, value.need, value.growth, [value.count(at, 9) for at in (0, 3, 5)]
    if isinstance(value, Log):
        return Log, value.sequence.steps, value.authors()
    if isinstance(value, Console):
        return Console, value.run("sequence"), value.run("authors")
    if isinstance(value, Sequence):
        return Sequence, value.steps
    if isinstance(value, Table):
        return Table, value.start, value.lost
    if isinstance(value, Effect):
        return Effect, value.breaks, seen(value.tables)
    if isinstance(value, Exception):
        return type(value), getattr(value, FIELDS[type(value)])
    return type(value), value


def filled_log():
    log = Log()
    log.add("ann", ("insert", 5))
    log.add("bob", ("remove", 2))
    log.add("ann", ("insert", 1))
    log.undo("ann")
    return log


def filled_console():
    console = Console()
    console.run("add ann +5")
    console.run("add bob -2")
    return console


def walked(*arguments, **named):
    return list(SEQUENCE.walk(*arguments, **named))


class Changing:
    """A method of a log or console: what it returns, together with the object as it is then."""

    def __init__(self, make, name):
        self.make, self.name = make, name

    def __call__(self, *arguments, **named):
        held = self.make()
        return getattr(held, self.name)(*arguments, **named), held


# Every function, method and constructor with parameters, and arguments by the names in the document.
CALLS = [
    *[(getattr(errors, error.__name__), {field: ["any"]}) for error, field in FIELDS.items()],
    (Sequence.is_step, {"value": ("insert", 4)}),
    (SEQUENCE, {"numbers": [9, 1]}),
    (walked, {"numbers": [9, 1]}),
    (Table, {"start": 3, "lost": [2, 4]}),
    (Table(3, [2, 4]), {"count": 7}),
    (Table(3, [2, 4]).least, {"count": 7}),
    (Effect, {"breaks": [5], "tables": [Table(0, ()), Table(1, (2,))]}),
    (Effect.of, {"sequence": SEQUENCE}),
    (EFFECT, {"numbers": (9, 1)}),
    (EFFECT.table, {"threshold": 4}),
    (EFFECT.shifted, {"offset": -7}),
    (separating_list, {"first": EFFECT, "second": OTHER_EFFECT}),
    (first_difference, {"first": EFFECT, "second": OTHER_EFFECT}),
    (is_separating, {"first": EFFECT, "second": OTHER_EFFECT, "value": [1]}),
    (kept, {"effect": EFFECT, "counts": [2, 1, 0]}),
    (kept_numbers, {"effect": EFFECT, "length": 2}),
    (Repetition, {"effect": EFFECT, "times": 7}),
    (Repetition(EFFECT, 2), {"numbers": [9, 1]}),
    (Repetition(EFFECT, 7).count, {"threshold": 4, "count": 9}),
    (Repetition(EFFECT, 7).loses, {"threshold": 2, "rank": 3}),
    (Repetition(EFFECT, 7).lost_up_to, {"threshold": 2, "count": 4}),
    (Repetition(EFFECT, 7).nth_lost, {"threshold": 2, "index": 1}),
    (old_rank, {"sequence": SEQUENCE, "repetition": 4, "index": 1}),
    (removal_of, {"sequence": SEQUENCE, "rank": 4}),
    (never_removed, {"sequence": SEQUENCE}),
    (exchanged, {"sequence": Sequence(("insert", 1), ("insert", 0)), "index": 0}),
    (normal_form, {"sequence": SEQUENCE}),
    (is_connected, {"first": SEQUENCE, "second": OTHER}),
    (count_sequences, {"effect": OTHER_EFFECT, "numbers": [5, 4], "ranks": 3, "length": 2}),
    (first_sequence, {"effect": OTHER_EFFECT, "numbers": [5, 4], "ranks": 3, "most": 2}),
    (resolved, {"length": 4, "steps": [("top", 1), ("insert", 2), ("median",)]}),
    (agreeing, {"sequences": [SEQUENCE, OTHER], "facts": [([1], [5]), ((), [])]}),
    (best_list, {"sequences": [SEQUENCE, OTHER], "lists": [[], [4, 1], (9,)]}),
    (Changing(filled_log, "insert"), {"user": "cid", "index": 1, "step": ("insert", 8)}),
    (Changing(filled_log, "add"), {"user": "cid", "step": ("remove", 1)}),
    (Changing(filled_log, "attempt"), {"user": "cid", "numbers": [9, 4]}),
    (Changing(filled_log, "remove"), {"user": "cid", "index": 1}),
    (Changing(filled_log, "undo"), {"user": "bob"}),
    (Changing(filled_log, "redo"), {"user": "ann"}),
    (format_sequence, {"sequence": SEQUENCE}),
    (format_effect, {"effect": EFFECT}),
    (parse_sequence, {"text": "+5 -2"}),
    (parse_effect, {"text": "* 0 .\n5 1 ."}),
    (effect_grid, {"effect": EFFECT}),
    (Changing(filled_console, "run"), {"line": "insert cid 1 -3"}),
]


class ArgumentTest(unittest.TestCase):
    def test_by_position_and_by_name_in_any_order(self):
        for run, named in CALLS:
            values = list(named.values())
            wanted = seen(run(**named))
            for order in itertools.permutations(named):
                self.assertEqual(seen(run(**{name: named[name] for name in order})), wanted)
            # The first ones by position, the others by name.
            for many in range(1, len(values) + 1):
                others = dict(list(named.items())[many:])
                self.assertEqual(seen(run(*values[:many], **others)), wanted)

    def test_no_argument_is_changed(self):
        for run, named in CALLS:
            before = {name: copy.copy(value) if isinstance(value, list) else value for name, value in named.items()}
            run(**named)
            self.assertEqual([seen(value) for value in named.values()], [seen(value) for value in before.values()])

    def test_equal_arguments_give_equal_results(self):
        for run, named in CALLS:
            self.assertEqual(seen(run(**named)), seen(run(**copy.copy(named))))

    def test_later_changes_of_arguments(self):
        lost, breaks, tables = [2, 4], [5], [Table(0, ()), Table(1, ())]
        numbers, steps = [4, 1], [("top", 1), ("insert", 2)]
        log = Log()
        made = [Table(3, lost), Effect(breaks, tables), resolved(4, steps), log.attempt("ann", numbers), log,
                first_sequence(OTHER_EFFECT, breaks, 1, 2), SEQUENCE(numbers), EFFECT(numbers)]
        before = [seen(value) for value in made]
        for changed in (lost, breaks, tables, numbers, steps):
            changed.reverse()
            changed.append(changed[0])
        self.assertEqual([seen(value) for value in made], before)

    def test_returned_lists_are_new(self):
        log = filled_log()
        repetition = Repetition(Effect.nothing(), MOST)
        ordered = [1, 2]
        calls = [lambda: SEQUENCE([9, 1]), lambda: EFFECT([9, 1]), lambda: repetition([1, 2]), log.authors,
                 lambda: separating_list(EFFECT, OTHER_EFFECT), lambda: kept_numbers(EFFECT, 1),
                 lambda: kept(EFFECT, [2, 1, 0])[0], lambda: kept(EFFECT, [2, 1, 0])[1],
                 lambda: agreeing([SEQUENCE], []), lambda: log.attempt("ann", [8, 9]),
                 lambda: next(iter(SEQUENCE.walk([9, 1]))), lambda: list(SEQUENCE.walk([9, 1]))[-1],
                 lambda: Sequence()(ordered), lambda: Effect.nothing()(ordered), lambda: repetition(ordered),
                 lambda: Log().attempt("ann", ordered), lambda: next(iter(Sequence().walk(ordered)))]
        for run in calls:
            first = run()
            wanted = list(first)
            first.append(77)
            first.insert(0, 78)
            self.assertEqual(run(), wanted)
            self.assertEqual(ordered, [1, 2])
        first, second = kept(EFFECT, [2, 1, 0])
        self.assertIsNot(first, second)
        states = []
        for state in SEQUENCE.walk([9, 1]):
            states.append(list(state))
            state.clear()
        self.assertEqual(states, list(SEQUENCE.walk([9, 1])))

    def test_operators_and_objects_return_new_objects(self):
        nothing, table = Sequence(), Table(0, ())
        for first, second in ((nothing, nothing + nothing), (SEQUENCE, SEQUENCE + nothing), (SEQUENCE, SEQUENCE * 1),
                              (nothing, nothing * MOST), (table, table + table), (EFFECT, EFFECT + Effect.nothing()),
                              (EFFECT, EFFECT * 1), (EFFECT, EFFECT.shifted(0)), (SEQUENCE, normal_form(SEQUENCE))):
            self.assertEqual(type(first), type(second))
            self.assertIsNot(first, second)
        self.assertEqual((SEQUENCE.steps, EFFECT.breaks), ((("insert", 5), ("remove", 2), ("insert", 3)), (3, 5)))

    def test_bools(self):
        repetition = Repetition(EFFECT, 3)
        for value in [*ODD, ("insert", 1), ["insert", 1], [1], (), 0, "x"]:
            self.assertIs(type(Sequence.is_step(value)), bool)
            self.assertIs(type(is_separating(EFFECT, OTHER_EFFECT, value)), bool)
        for found in (repetition.loses(2, 1), repetition.loses(9, 1), is_connected(SEQUENCE, OTHER),
                      is_connected(OTHER, OTHER), SEQUENCE == OTHER, SEQUENCE == Sequence(*SEQUENCE.steps),
                      EFFECT == OTHER_EFFECT, EFFECT == Effect.of(SEQUENCE), Table(0, ()) == Table(0, []),
                      Table(0, ()) == Table(1, ())):
            self.assertIs(type(found), bool)
        self.assertEqual([bool(EFFECT), bool(Effect.nothing()), bool(Table(1, ())), bool(Table(0, ()))],
                         [True, False, True, False])

    def test_objects_of_other_classes_are_not_equal(self):
        made = [Sequence(), Table(0, ()), Effect.nothing()]
        for one, other in itertools.product(made, [*made, None, 0, (), [], "", object()]):
            if one is not other:
                self.assertIs(one == other, False)
                self.assertIs(one != other, True)

    def test_odd_objects_where_errors_are_listed(self):
        log, console, repetition = Log(), Console(), Repetition(EFFECT, 3)
        for value in ODD:
            for error, run, arguments in [
                    (errors.InvalidStep, Sequence, (value,)), (errors.InvalidList, SEQUENCE, (value,)),
                    (errors.InvalidList, EFFECT, (value,)), (errors.InvalidList, repetition, (value,)),
                    (errors.InvalidNumber, Table(0, ()), (value,)), (errors.InvalidNumber, EFFECT.table, (value,)),
                    (errors.InvalidNumber, repetition.count, (value, value)),
                    (errors.InvalidNumber, repetition.nth_lost, (value, value)),
                    (errors.InvalidNumber, kept, (EFFECT, value)), (errors.InvalidNumber, kept_numbers, (EFFECT, value)),
                    (errors.InvalidNumber, Repetition, (EFFECT, value)),
                    (errors.InvalidNumber, old_rank, (SEQUENCE, value, value)),
                    (errors.InvalidNumber, old_rank, (SEQUENCE, 0, value)),
                    (errors.InvalidNumber, removal_of, (SEQUENCE, value)),
                    (errors.InvalidNumber, exchanged, (SEQUENCE, value)),
                    (errors.InvalidList, count_sequences, (EFFECT, value, value, value)),
                    (errors.InvalidNumber, count_sequences, (EFFECT, [], value, value)),
                    (errors.InvalidNumber, first_sequence, (EFFECT, [], 0, value)),
                    (errors.InvalidNumber, resolved, (value, value)), (errors.InvalidStep, resolved, (4, value)),
                    (errors.InvalidStep, resolved, (4, [value])), (errors.InvalidFacts, agreeing, ([], value)),
                    (errors.InvalidList, best_list, ([], value)), (errors.InvalidName, log.insert, (value,) * 3),
                    (errors.InvalidName, log.add, (value, value)), (errors.InvalidName, log.attempt, (value,) * 4),
                    (errors.InvalidName, log.remove, (value, value)), (errors.InvalidName, log.undo, (value,)),
                    (errors.InvalidName, log.redo, (value,)), (errors.InvalidNumber, log.insert, ("a", value, value)),
                    (errors.InvalidStep, log.insert, ("a", 0, value)), (errors.InvalidStep, log.add, ("a", value)),
                    (errors.InvalidList, log.attempt, ("a", value, value)),
                    (errors.InvalidStep, log.attempt, ("a", [], value)),
                    (errors.InvalidNumber, log.remove, ("a", value)), (errors.InvalidCommand, console.run, (value,))]:
                check_raises(self, error, value, run, *arguments)
            check_raises(self, errors.ParseError, None, parse_sequence, value)
            check_raises(self, errors.ParseError, None, parse_effect, value)
        self.assertEqual((log.sequence, console.run("sequence")), (Sequence(), "."))


class GuaranteeTest(unittest.TestCase):
    """One test for each guarantee, by the letter that the document gives it."""

    def test_a_effects_tell_the_results(self):
        lists = short_lists((-1, 0, 1, 3, 4), 5)
        for first, second in zip(SEQUENCES[:24], drawn_sequences(1602, 24, 4, (0, 3), 3)):
            one, other = Effect.of(first), Effect.of(second)
            results = [(outcome(first, numbers), outcome(second, numbers)) for numbers in lists]
            self.assertEqual([outcome(one, numbers) for numbers in lists], [result for result, _ in results])
            differing = [numbers for numbers, (left, right) in zip(lists, results) if left != right]
            found = separating_list(one, other)
            if one == other:
                self.assertIsNone(found)
                self.assertEqual(differing, [])
            else:
                self.assertNotEqual(outcome(first, found), outcome(second, found))
                self.assertTrue(is_separating(one, other, found))
                # The drawn sequences need at most five elements, and so do their differences.
                self.assertTrue(len(found) > 5 or len(found) == len(differing[0]))

    def test_b_success(self):
        for sequence in SEQUENCES:
            need = Effect.of(sequence).need
            for length in range(need + 4):
                self.assertEqual(outcome(sequence, [7] * length) is not None, length >= need)

    def test_c_what_stays_in_the_gaps(self):
        for sequence in SEQUENCES:
            # Tenfold numbers leave room for old elements in every gap.
            tenfold = Sequence(*[(word, 10 * number if word == "insert" else number)
                                 for word, number in sequence.steps])
            effect, breaks = Effect.of(tenfold), inserted(tenfold)
            values = [min([0, *breaks]) - 5, *[number + 5 for number in breaks]]
            for chosen in itertools.product(range(3), repeat=len(values)):
                numbers = [value for value, many in zip(values, chosen) for _ in range(many)]
                wanted = outcome(tenfold, numbers)
                if wanted is None:
                    check_raises(self, errors.StepFailed, None, kept, effect, list(chosen))
                    continue
                self.assertEqual(kept(effect, chosen), ([wanted.count(value) for value in values],
                                                        [wanted.count(number) for number in breaks]))

    def test_d_composition_and_repetitions(self):
        for first, second in zip(SEQUENCES, SEQUENCES[1:]):
            self.assertEqual(Effect.of(first) + Effect.of(second), Effect.of(first + second))
            product, repetition = Effect.of(first * 4), Repetition(Effect.of(first), 4)
            self.assertEqual(Effect.of(first) * 4, product)
            self.assertEqual((repetition.need, repetition.growth), (product.need, product.growth))
            for threshold in around(inserted(first)):
                table = product.table(threshold)
                self.assertEqual([repetition.count(threshold, count) for count in range(20)],
                                 [table(count) for count in range(20)])
                found = [repetition.nth_lost(threshold, index) for index in range(len(table.lost) + 1)]
                self.assertEqual(found, [*table.lost, None])
        twice = Repetition(Effect.of(Sequence(("remove", 2), ("remove", 5))), MOST)
        self.assertEqual((twice.need, twice.growth), (6 + 2 * (MOST - 1), -2 * MOST))

    def test_e_the_order_of_removal(self):
        for sequence in SEQUENCES:
            old = list(range(1, 90))
            for repetition in range(6):
                for index, (word, rank) in enumerate(sequence.steps):
                    if word == "remove":
                        removed = old.pop(rank - 1)
                        self.assertEqual(old_rank(sequence, repetition, index), removed)
                        self.assertEqual(removal_of(sequence, removed), (repetition, index))
                        last = old_rank(sequence, MOST, index)
                        self.assertEqual(removal_of(sequence, last), (MOST, index))

    def test_f_exchanges(self):
        for sequence in SEQUENCES:
            for index in range(len(sequence) - 1):
                found = exchanged(sequence, index)
                words = {word for word, _ in sequence.steps[index:index + 2]}
                self.assertEqual(found is None, len(words) == 2)
                if found is None:
                    pair = sequence.steps[index:index + 2]
                    self.assertNotEqual(Effect.of(Sequence(*pair)), Effect.of(Sequence(*pair[::-1])))
                else:
                    self.assertEqual(Effect.of(found), Effect.of(sequence))
                    self.assertTrue(is_connected(found, sequence))
                    self.assertEqual(normal_form(found), normal_form(sequence))

    def test_g_searches(self):
        choices = [("insert", 2), ("insert", 4), ("remove", 1), ("remove", 2)]
        ordered = [steps for length in range(4) for steps in itertools.product(choices, repeat=length)]
        effects = [Effect.of(Sequence(*steps)) for steps in ordered]
        for at in range(0, len(ordered), 3):
            length = len(ordered[at])
            wanted = [steps for steps, effect in zip(ordered, effects) if effect == effects[at]]
            self.assertEqual(count_sequences(effects[at], [4, 2], 2, length), len(wanted))
            self.assertEqual(first_sequence(effects[at], [4, 2], 2, 3).steps, wanted[0])

    def test_h_ranks_from_the_top(self):
        chance = random.Random(1603)
        for _ in range(60):
            numbers = [chance.randint(0, 9) for _ in range(9)]
            found = resolved(9, [("top", 2), ("insert", 4), ("median",), ("top", 8), ("remove", 3)])
            wanted = sorted(numbers)
            del wanted[-2]
            wanted = sorted([*wanted, 4])
            del wanted[4], wanted[-8], wanted[2]
            self.assertEqual(found(numbers), wanted)

    def test_i_observations(self):
        lists = short_lists((1, 4), 3)
        for truth in SEQUENCES:
            facts = [(numbers, outcome(truth, numbers)) for numbers in lists]
            wanted = [index for index, sequence in enumerate(SEQUENCES)
                      if all(outcome(sequence, before) == after for before, after in facts)]
            self.assertEqual(agreeing(SEQUENCES, facts), wanted)
        results = [[outcome(sequence, numbers) for sequence in SEQUENCES] for numbers in lists]
        sizes = [max(row.count(result) for result in row) for row in results]
        self.assertEqual(best_list(SEQUENCES, lists), sizes.index(min(sizes)))

    def test_j_the_effect_of_a_log(self):
        for seed in range(1604, 1610):
            chance = random.Random(seed)
            log = Log()
            for _ in range(70):
                done(log, *drawn_action(chance, USERS, len(log.sequence)))
                steps = log.sequence.steps
                self.assertEqual(log.effect, Effect.of(Sequence(*steps)))
                self.assertEqual(len(log.authors()), len(steps))

    def test_k_shifted_numbers(self):
        for sequence, offset in itertools.product(SEQUENCES, (4, -10 ** 60)):
            other, effect = shifted_sequence(sequence, offset), Effect.of(sequence)
            self.assertEqual(Effect.of(other), effect.shifted(offset))
            self.assertEqual(effect.shifted(offset).shifted(-offset), effect)
            for numbers in ([], [1, 5], [0] * 6, list(range(-3, 8))):
                result = outcome(sequence, numbers)
                wanted = None if result is None else [number + offset for number in result]
                self.assertEqual(outcome(other, [number + offset for number in numbers]), wanted)
            if effect.need == 0:
                self.assertEqual(kept_numbers(effect.shifted(offset), 0),
                                 [number + offset for number in kept_numbers(effect, 0)])

    def test_k_texts_are_read_again(self):
        for sequence, offset in itertools.product(SEQUENCES, (0, 9, -HUGE)):
            other = shifted_sequence(sequence, offset)
            self.assertEqual(parse_sequence(format_sequence(other)), other)
            self.assertEqual(parse_effect(format_effect(Effect.of(other))), Effect.of(other))


if __name__ == "__main__":
    unittest.main()
