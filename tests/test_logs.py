"""Tests of rankeffect.logs: steps that several users add, remove, undo and redo."""

import itertools
import random
import unittest

from tests.log_model import USERS, done, history, outcomes
from tests.odd_objects import HUGE, NO_INTEGERS, NOTHING_USUAL, Greedy, Loud
from tests.raising import check_raises
from rankeffect.effects import Effect
from rankeffect.errors import (InvalidList, InvalidName, InvalidNumber, InvalidStep, NothingToRedo, NothingToUndo,
                               StepFailed)
from rankeffect.logs import Log
from rankeffect.sequences import Sequence

A, B, C, D, E = [("insert", number) for number in range(5)]
FIRST, SECOND = ("remove", 1), ("remove", 2)
NO_NAMES = [*NO_INTEGERS, 0, 5, "Ann", "ANN", "aNn",
            "ann ", " ann", "an n", "ann1", "a_b", "a-b", "ann\n", "\n", " ", "abcdefghi", "abcdefghijklmnop", "a.b", "@",
            "[", "`", "{", "~", "ann,bob", ["ann"], ("ann",), b"ann", {"ann": 1}, Sequence(), Log()]
NO_NUMBERS = [*NO_INTEGERS, Sequence(), Log()]
NO_INDICES = [*NO_NUMBERS, -1, -2, -HUGE, HUGE]
NO_STEPS = [*NO_NUMBERS, 0, 1, (), ("insert",), ("insert", True), ("insert", None), ("insert", 1, 2), ["insert", 1],
            ("remove", 0), ("remove", -1), ("remove", True), ["remove", 1], ("top", 1), ("median",), ("Insert", 1),
            "insert", (Loud(), 1), (Greedy(), 1), (1, "insert"), A + B, (A,), [A]]
NO_LISTS = [*NOTHING_USUAL, 0, 5, Sequence(), Log(), [[]], *[[1, number] for number in NO_NUMBERS]]


def contents(log):
    return log.sequence.steps, log.authors()


class Checked:
    """A log with some steps, whose contents are remembered."""

    def __init__(self):
        self.log = Log()
        self.log.add("ann", A)
        self.log.add("bob", B)
        self.log.add("ann", FIRST)
        self.log.remove("cid", 1)
        self.log.add("dan", C)
        self.log.undo("dan")
        self.log.attempt("eve", [1, 2, 3], D)
        self.wanted = ((A, FIRST, D), ["ann", "ann", "eve"])

    def check(self, case):
        """The log is as it was, and every user can still undo and redo the same."""
        case.assertEqual(contents(self.log), self.wanted)
        self.log.redo("dan")
        case.assertEqual(contents(self.log), ((A, FIRST, C, D), ["ann", "ann", "dan", "eve"]))
        self.log.undo("dan")
        case.assertEqual(contents(self.log), self.wanted)
        check_raises(case, NothingToUndo, "dan", self.log.undo, "dan")
        check_raises(case, NothingToRedo, "ann", self.log.redo, "ann")
        self.log.undo("cid")
        case.assertEqual(contents(self.log), ((A, B, FIRST, D), ["ann", "bob", "ann", "eve"]))
        check_raises(case, NothingToUndo, "cid", self.log.undo, "cid")
        self.log.redo("cid")
        case.assertEqual(contents(self.log), self.wanted)


class HistoryTest(unittest.TestCase):
    def check(self, log):
        def checked(model, kind, arguments, wanted, found):
            self.assertEqual(found, wanted, (kind, arguments))
            self.assertEqual(type(found), type(wanted))
            self.assertEqual(log.sequence.steps, model.steps)
            self.assertEqual(log.authors(), model.authors())
        return checked

    def test_long_histories(self):
        for seed in range(40):
            log = Log()
            users = USERS[:1 + seed % 8]
            model = history(seed, users, 150, log, self.check(log))
            self.assertGreater(len(model.added), 10)

    def test_effects_and_results(self):
        def checked(model, kind, arguments, wanted, found):
            sequence = Sequence(*model.steps)
            self.assertEqual(log.sequence, sequence)
            self.assertEqual(log.effect, Effect.of(sequence))
            self.assertEqual(outcomes(log.sequence), outcomes(sequence))
        for seed in range(100, 112):
            log = Log()
            history(seed, USERS[:3], 80, log, checked)

    def test_undoing_and_redoing_everything(self):
        for seed in range(200, 215):
            log = Log()
            users = USERS[:4]
            history(seed, users, 120, log, lambda *_: None)
            before = contents(log)
            counts = {}
            for user in users:
                counts[user] = 0
                try:
                    while True:
                        log.undo(user)
                        counts[user] += 1
                except NothingToUndo as error:
                    self.assertEqual(error.user, user)
            # Whatever was ever added is undone now.
            self.assertEqual(contents(log), ((), []))
            for user in reversed(users):
                for _ in range(counts[user]):
                    log.redo(user)
            self.assertEqual(contents(log), before)

    def test_two_logs_share_nothing(self):
        first, second = Log(), Log()
        first.add("ann", A)
        self.assertEqual(contents(second), ((), []))
        check_raises(self, NothingToUndo, "ann", second.undo, "ann")
        second.add("ann", B)
        first.undo("ann")
        self.assertEqual(contents(second), ((B,), ["ann"]))
        check_raises(self, NothingToRedo, "ann", second.redo, "ann")


class EmptyTest(unittest.TestCase):
    def test_a_new_log(self):
        log = Log()
        self.assertEqual(log.sequence, Sequence())
        self.assertEqual(log.effect, Effect.nothing())
        self.assertEqual(log.authors(), [])
        for user in ("ann", "b"):
            check_raises(self, NothingToUndo, user, log.undo, user)
            check_raises(self, NothingToRedo, user, log.redo, user)

    def test_what_the_methods_return(self):
        log = Log()
        self.assertIsNone(log.add("ann", A))
        self.assertIsNone(log.insert("ann", 0, B))
        self.assertIsNone(log.remove("ann", 0))
        self.assertIsNone(log.undo("ann"))
        self.assertIsNone(log.redo("ann"))
        result = log.attempt("ann", (9, 3), C)
        self.assertEqual(result, [0, 2, 3, 9])
        self.assertIs(type(result), list)
        self.assertIs(type(log.sequence), Sequence)
        self.assertIs(type(log.effect), Effect)
        self.assertIs(type(log.authors()), list)


class InsertTest(unittest.TestCase):
    def test_at_every_index(self):
        for index in range(4):
            log = Log()
            for step in (A, B, C):
                log.add("ann", step)
            log.insert("bob", index, D)
            wanted = [A, B, C]
            wanted.insert(index, D)
            self.assertEqual(log.sequence.steps, tuple(wanted))
            self.assertEqual(log.authors()[index], "bob")

    def test_behind_the_hidden_steps_before_that_index(self):
        log = Log()
        for user, step in (("ann", A), ("bob", B), ("cid", C)):
            log.add(user, step)
        log.remove("dan", 1)
        log.insert("eve", 1, D)
        self.assertEqual(log.sequence.steps, (A, D, C))
        log.undo("dan")
        self.assertEqual(log.sequence.steps, (A, B, D, C))

    def test_at_the_beginning_behind_hidden_steps(self):
        log = Log()
        log.add("ann", A)
        log.add("bob", B)
        log.undo("ann")
        log.insert("cid", 0, C)
        self.assertEqual(log.sequence.steps, (C, B))
        log.redo("ann")
        self.assertEqual(log.sequence.steps, (A, C, B))

    def test_at_the_end_behind_all_hidden_steps(self):
        for add in (lambda log: log.add("cid", C), lambda log: log.insert("cid", 1, C),
                    lambda log: log.attempt("cid", [], C)):
            log = Log()
            log.add("ann", A)
            log.add("bob", B)
            log.undo("bob")
            add(log)
            self.assertEqual(log.sequence.steps, (A, C))
            log.redo("bob")
            self.assertEqual(log.sequence.steps, (A, B, C))

    def test_in_an_empty_sequence_behind_all_hidden_steps(self):
        log = Log()
        log.add("ann", A)
        log.add("bob", B)
        log.remove("cid", 1)
        log.undo("ann")
        log.insert("dan", 0, C)
        log.redo("ann")
        log.undo("cid")
        self.assertEqual(log.sequence.steps, (A, B, C))

    def test_immediately_before_even_if_steps_are_hidden_between(self):
        log = Log()
        log.add("ann", A)
        log.add("bob", B)
        log.insert("cid", 1, C)
        log.undo("cid")
        log.insert("dan", 1, D)
        log.insert("eve", 1, E)
        log.redo("cid")
        self.assertEqual(log.sequence.steps, (A, C, E, D, B))


class RemoveTest(unittest.TestCase):
    def test_whoever_added_it(self):
        log = Log()
        for user, step in (("ann", A), ("bob", B), ("cid", C)):
            log.add(user, step)
        log.remove("ann", 1)
        self.assertEqual(contents(log), ((A, C), ["ann", "cid"]))
        log.remove("bob", 0)
        self.assertEqual(contents(log), ((C,), ["cid"]))
        log.undo("ann")
        self.assertEqual(contents(log), ((B, C), ["bob", "cid"]))

    def test_removed_by_two_users(self):
        for order in itertools.permutations(["bob", "cid"]):
            log = Log()
            log.add("ann", A)
            log.add("ann", B)
            log.remove("bob", 0)
            log.undo("bob")
            log.remove("cid", 0)
            log.redo("bob")
            self.assertEqual(contents(log), ((B,), ["ann"]))
            log.undo(order[0])
            self.assertEqual(contents(log), ((B,), ["ann"]))
            log.undo(order[1])
            self.assertEqual(contents(log), ((A, B), ["ann", "ann"]))

    def test_removed_twice_by_one_user(self):
        log = Log()
        log.add("ann", A)
        log.remove("ann", 0)
        log.undo("ann")
        log.remove("ann", 0)
        log.undo("ann")
        self.assertEqual(contents(log), ((A,), ["ann"]))
        log.undo("ann")
        self.assertEqual(contents(log), ((), []))

    def test_an_undone_addition_stays_removed(self):
        log = Log()
        log.add("ann", A)
        log.remove("bob", 0)
        log.undo("ann")
        log.undo("bob")
        self.assertEqual(contents(log), ((), []))
        log.redo("bob")
        log.redo("ann")
        self.assertEqual(contents(log), ((), []))
        log.undo("bob")
        self.assertEqual(contents(log), ((A,), ["ann"]))


class UndoTest(unittest.TestCase):
    def test_the_latest_action_of_the_user(self):
        log = Log()
        log.add("ann", A)
        log.add("bob", B)
        log.add("ann", C)
        log.undo("bob")
        self.assertEqual(log.sequence.steps, (A, C))
        log.undo("ann")
        self.assertEqual(log.sequence.steps, (A,))
        log.undo("ann")
        self.assertEqual(log.sequence.steps, ())
        check_raises(self, NothingToUndo, "ann", log.undo, "ann")

    def test_redo_in_the_opposite_order(self):
        log = Log()
        for step in (A, B, C):
            log.add("ann", step)
        for _ in range(3):
            log.undo("ann")
        for wanted in ((A,), (A, B), (A, B, C)):
            log.redo("ann")
            self.assertEqual(log.sequence.steps, wanted)
        check_raises(self, NothingToRedo, "ann", log.redo, "ann")
        log.undo("ann")
        self.assertEqual(log.sequence.steps, (A, B))

    def test_a_new_action_makes_redoing_impossible(self):
        actions = [lambda log: log.add("ann", C), lambda log: log.insert("ann", 0, C),
                   lambda log: log.remove("ann", 0), lambda log: log.attempt("ann", [1], C),
                   lambda log: log.attempt("ann", [1])]
        for act in actions:
            log = Log()
            log.add("bob", A)
            log.add("bob", B)
            log.add("ann", D)
            log.add("ann", E)
            log.undo("ann")
            log.undo("bob")
            act(log)
            check_raises(self, NothingToRedo, "ann", log.redo, "ann")
            log.undo("ann")
            check_raises(self, NothingToRedo, "dan", log.redo, "dan")
            self.assertEqual(log.sequence.steps, (A, D))
            # The undone actions of other users can still be redone.
            log.redo("bob")
            self.assertEqual(log.sequence.steps, (A, B, D))
            log.redo("ann")
            check_raises(self, NothingToRedo, "ann", log.redo, "ann")
            # What cannot be redone is gone for good, and what was done before it can still be undone.
            log.undo("ann")
            log.undo("ann")
            self.assertEqual(log.sequence.steps, (A, B))
            check_raises(self, NothingToUndo, "ann", log.undo, "ann")

    def test_undoing_and_redoing_are_no_new_actions(self):
        log = Log()
        for step in (A, B, C):
            log.add("ann", step)
        log.undo("ann")
        log.undo("ann")
        log.redo("ann")
        log.undo("ann")
        log.redo("ann")
        log.redo("ann")
        self.assertEqual(log.sequence.steps, (A, B, C))

    def test_any_order_of_the_users(self):
        found = []
        for order in itertools.permutations(["ann", "ann", "bob", "bob", "cid"]):
            log = Log()
            log.add("ann", A)
            log.insert("bob", 0, B)
            log.attempt("cid", [4], C, FIRST)
            log.remove("ann", 1)
            log.insert("bob", 1, D)
            for user in order[:4]:
                log.undo(user)
            log.redo(order[3])
            log.undo(order[4])
            log.undo(order[3])
            self.assertEqual(contents(log), ((), []))
            for user in sorted(order):
                log.redo(user)
            found.append(contents(log))
        self.assertEqual(found, [((B, D, C, FIRST), ["bob", "bob", "cid", "cid"])] * len(found))

    def test_any_order_after_long_histories(self):
        for seed in range(300, 310):
            chance = random.Random(seed)
            undos = [chance.choice(USERS[:3]) for _ in range(12)]
            found = []
            for _ in range(6):
                log = Log()
                history(seed, USERS[:3], 90, log, lambda *_: None)
                order = chance.sample(undos, len(undos))
                done_undos = [user for user in order if done(log, "undo", (user,)) is None]
                found.append((contents(log), sorted(done_undos)))
            self.assertEqual(found, [found[0]] * len(found))

    def test_orders_that_undo_a_part(self):
        found = []
        for order in itertools.permutations(["ann", "bob", "cid"]):
            log = Log()
            log.add("ann", A)
            log.add("bob", B)
            log.remove("cid", 0)
            log.insert("ann", 0, C)
            log.insert("bob", 1, D)
            for user in order:
                log.undo(user)
            found.append(contents(log))
        self.assertEqual(found, [((A, B), ["ann", "bob"])] * len(found))


class AttemptTest(unittest.TestCase):
    def test_the_result_of_the_new_sequence(self):
        log = Log()
        log.add("ann", A)
        self.assertEqual(log.attempt("bob", (9, 5), SECOND, C), [0, 2, 9])
        self.assertEqual(contents(log), ((A, SECOND, C), ["ann", "bob", "bob"]))
        self.assertEqual(log.attempt("ann", [1]), [0, 2])

    def test_one_action(self):
        log = Log()
        log.add("bob", A)
        log.attempt("bob", [], B, C, FIRST)
        log.undo("bob")
        self.assertEqual(contents(log), ((A,), ["bob"]))
        log.redo("bob")
        self.assertEqual(contents(log), ((A, B, C, FIRST), ["bob"] * 4))
        log.remove("bob", 2)
        log.undo("bob")
        log.undo("bob")
        log.undo("bob")
        self.assertEqual(contents(log), ((), []))

    def test_without_steps_it_is_an_action_as_well(self):
        log = Log()
        log.add("ann", A)
        self.assertEqual(log.attempt("ann", [5]), [0, 5])
        log.undo("ann")
        self.assertEqual(contents(log), ((A,), ["ann"]))
        log.redo("ann")
        log.undo("ann")
        log.undo("ann")
        self.assertEqual(contents(log), ((), []))
        check_raises(self, NothingToUndo, "ann", log.undo, "ann")

    def test_failing(self):
        log = Log()
        log.add("ann", SECOND)
        log.add("bob", B)
        log.undo("bob")
        for numbers, steps, index in (([], (), 0), ([7], (A,), 0), ([7, 8], (FIRST, FIRST), 2), ((7, 8), (A, SECOND, B,
                                                                                               ("remove", 4)), 4)):
            check_raises(self, StepFailed, index, log.attempt, "bob", numbers, *steps)
            check_raises(self, StepFailed, index, log.attempt, "ann", numbers, *steps)
        self.assertEqual(contents(log), ((SECOND,), ["ann"]))
        log.redo("bob")
        self.assertEqual(contents(log), ((SECOND, B), ["ann", "bob"]))
        log.undo("ann")
        self.assertEqual(contents(log), ((B,), ["bob"]))

    def test_long_steps(self):
        log = Log()
        self.assertEqual(log.attempt("abcdefgh", [HUGE], ("insert", -HUGE)), [-HUGE, HUGE])
        log.add("z", ("remove", HUGE))
        self.assertEqual((log.effect.need, log.effect.growth), (HUGE - 1, 0))
        check_raises(self, StepFailed, 1, log.attempt, "z", [1, 2])


class ErrorTest(unittest.TestCase):
    def refused(self, error, field, method, *arguments):
        checked = Checked()
        check_raises(self, error, field, getattr(checked.log, method), *arguments)
        checked.check(self)

    def test_names_come_first(self):
        for name in NO_NAMES:
            for method, arguments in (("insert", (0, A)), ("insert", (9, A)), ("insert", (True, None)), ("add", (A,)),
                                      ("add", (None,)), ("attempt", ([1, 2],)), ("attempt", (None, None)),
                                      ("attempt", ([], FIRST)), ("attempt", ([1, 2], A)), ("remove", (0,)),
                                      ("remove", (9,)), ("remove", (None,)), ("undo", ()), ("redo", ())):
                check_raises(self, InvalidName, name, getattr(Log(), method), name, *arguments)
            self.refused(InvalidName, name, "insert", name, 0, A)
            self.refused(InvalidName, name, "add", name, A)
            self.refused(InvalidName, name, "attempt", name, [1, 2, 3], A)
            self.refused(InvalidName, name, "remove", name, 0)
            self.refused(InvalidName, name, "undo", name)
            self.refused(InvalidName, name, "redo", name)

    def test_names_with_odd_arguments(self):
        for value in (Loud(), Greedy()):
            for method, many in (("insert", 2), ("add", 1), ("attempt", 2), ("remove", 1)):
                self.refused(InvalidName, "Ann", method, "Ann", *[value] * many)

    def test_names_that_are_allowed(self):
        for name in ("a", "z", "az", "abcdefgh", "zzzzzzzz"):
            log = Log()
            log.add(name, A)
            self.assertEqual(log.authors(), [name])
            log.undo(name)
            log.redo(name)
            self.assertEqual(log.attempt(name, []), [0])

    def test_indices_of_insertions(self):
        for index in [*NO_INDICES, 4, 5]:
            for step in (A, None, ("remove", 0), index):
                check_raises(self, InvalidNumber, index, Checked().log.insert, "ann", index, step)
            self.refused(InvalidNumber, index, "insert", "dan", index, B)
            self.refused(InvalidNumber, index, "insert", "dan", index, None)
        for index in (1, -1, True, False):
            check_raises(self, InvalidNumber, index, Log().insert, "ann", index, A)
        log = Checked().log
        log.insert("ann", 3, E)
        self.assertEqual(log.sequence.steps, (A, FIRST, D, E))

    def test_steps(self):
        for step in NO_STEPS:
            self.refused(InvalidStep, step, "insert", "dan", 0, step)
            self.refused(InvalidStep, step, "insert", "dan", 3, step)
            self.refused(InvalidStep, step, "add", "dan", step)
            self.refused(InvalidStep, step, "attempt", "dan", [1, 2, 3], step)
            self.refused(InvalidStep, step, "attempt", "dan", [1, 2, 3], A, step, B, ["insert", 2])
            # Even if the sequence fails on the list, also before this step.
            self.refused(InvalidStep, step, "attempt", "dan", [], FIRST, FIRST, step)

    def test_lists_of_attempts(self):
        for numbers in NO_LISTS:
            self.refused(InvalidList, numbers, "attempt", "dan", numbers)
            self.refused(InvalidList, numbers, "attempt", "dan", numbers, A)
            self.refused(InvalidList, numbers, "attempt", "dan", numbers, None, A)
            self.refused(InvalidList, numbers, "attempt", "dan", numbers, *[FIRST] * 20)

    def test_failures_of_attempts(self):
        self.refused(StepFailed, 4, "attempt", "dan", [], A, ("remove", 3))
        self.refused(StepFailed, 3, "attempt", "dan", [1], ("remove", HUGE), ("remove", HUGE))

    def test_indices_of_removals(self):
        for index in [*NO_INDICES, 3, 4]:
            self.refused(InvalidNumber, index, "remove", "dan", index)
        for index in (0, -1, 1, False):
            check_raises(self, InvalidNumber, index, Log().remove, "ann", index)

    def test_nothing_to_undo_and_redo(self):
        self.refused(NothingToUndo, "dan", "undo", "dan")
        self.refused(NothingToUndo, "zoe", "undo", "zoe")
        self.refused(NothingToRedo, "ann", "redo", "ann")
        self.refused(NothingToRedo, "cid", "redo", "cid")


class FormTest(unittest.TestCase):
    def test_by_name(self):
        log = Log()
        log.add(step=A, user="ann")
        log.insert(step=B, index=0, user="bob")
        self.assertEqual(log.attempt(numbers=[7], user="cid"), [0, 1, 7])
        log.remove(index=1, user="cid")
        log.undo(user="cid")
        log.redo(user="cid")
        self.assertEqual(contents(log), ((B,), ["bob"]))

    def test_what_was_asked_for_earlier_does_not_change(self):
        log = Log()
        log.add("ann", A)
        sequence, effect, authors, result = log.sequence, log.effect, log.authors(), log.attempt("bob", [3], B)
        log.remove("ann", 0)
        log.undo("bob")
        self.assertEqual(sequence, Sequence(A))
        self.assertEqual(effect, Effect.of(Sequence(A)))
        self.assertEqual(authors, ["ann"])
        self.assertEqual(result, [0, 1, 3])

    def test_changes_of_returned_lists(self):
        log = Log()
        log.add("ann", A)
        authors = log.authors()
        authors.append("bob")
        self.assertEqual(log.authors(), ["ann"])
        self.assertIsNot(log.authors(), log.authors())
        log.attempt("ann", [3]).clear()
        self.assertEqual(log.attempt("ann", [3]), [0, 3])

    def test_changes_of_arguments(self):
        log = Log()
        numbers, steps = [3, 1], [A, B]
        log.attempt("ann", numbers, *steps)
        self.assertEqual((numbers, steps), ([3, 1], [A, B]))
        numbers.clear()
        steps.clear()
        self.assertEqual(log.sequence.steps, (A, B))
        ordered = [1, 3]
        self.assertIsNot(Log().attempt("ann", ordered), ordered)

    def test_shifted_numbers(self):
        log, other = Log(), Log()
        for one, offset in ((log, 0), (other, 10 ** 50)):
            one.add("ann", ("insert", 5 + offset))
            one.add("bob", SECOND)
            one.insert("cid", 1, ("insert", -2 + offset))
        self.assertEqual(other.effect, log.effect.shifted(10 ** 50))

    def test_example(self):
        log = Log()
        log.add("ann", ("insert", 5))
        log.add("bob", ("remove", 2))
        log.remove("bob", 0)
        before = log.effect.need
        log.undo("bob")
        self.assertEqual([before, log.effect.need, log.authors(), log.attempt("ann", [9], ("insert", 1)),
                          len(log.sequence)], [2, 1, ["ann", "bob"], [1, 5], 3])


if __name__ == "__main__":
    unittest.main()
