"""Tests of rankeffect.console: commands, answers, and lines that are no commands."""

import random
import unittest

from tests.log_model import USERS, Model, drawn_action
from tests.odd_objects import HUGE, NO_INTEGERS
from tests.raising import check_raises
from rankeffect.console import Console
from rankeffect.effects import Effect
from rankeffect.errors import InvalidCommand, InvalidNumber, NothingToRedo, NothingToUndo, StepFailed
from rankeffect.sequences import Sequence

LONG = 10 ** 59  # a number with 60 digits
QUESTIONS = ("sequence", "authors", "need", "growth")
RUNS = ("run .", "run 9", "run 3,1", "run -5,0,12,-7", "run 2,2,2,2,2,2,2,2", f"run {HUGE},{-HUGE},0,1,2,3,4,5,6")
NO_STRINGS = [*[value for value in NO_INTEGERS if type(value) is not str], 0, 1, b"sequence", ["sequence"],
              ("add", "ann", "+5"), ["add", "ann", "+5"], Sequence(), Console(), bytearray(b"need")]

WRONG_STEPS = ["5", "+", "-", "+05", "+-0", "-0", "-01", "--1", "++1", ".", "x", "+5,", "+x", "-1.0", "5+", "insert",
               "+5-2", "+1_0", "*"]
WRONG_NAMES = ["Ann", "ANN", "ann1", "a_b", "abcdefghi", "a.b", ".", "1", "+5", "-1", "a,b", "*", "anN", "0"]
WRONG_COUNTS = ["-1", "+1", "-0", "00", "01", "x", ".", "1.0", "1,0", "0x1", "1_0", "*", "one", "0,"]
WRONG_NUMBERS = ["1,", ",1", ",", "1,,2", "+1", "1,+2", "01", "1,02", "-0", "0,-0", "--1", "x", "1,x", "..", ".,1", "1,.",
                 "1;2", "*", "1.0", "1_0", "[1]", "1-2", "-", "None"]
WRONG = [
    "", " ", "  ", ".", "\n", "x", "ok", "help", "exit", "log", "effect", "length", "attempt ann . +5", "Sequence", "SEQUENCE",
    "sequences", "Add ann +5", "ADD ann +5", "adds ann +5", "Need", "runs 1", "Run 1", "Reset", "RESET", "Undo ann",
    "add", "add ann", "add +5", "add +5 ann", "add ann +5 +6", "add ann 0 +5", "add ann bob +5",
    "insert", "insert ann", "insert ann 0", "insert ann +5", "insert ann +5 0", "insert ann 0 +5 +6", "insert 0 ann +5",
    "insert ann 0 0 +5", "remove", "remove ann", "remove 0", "remove ann 0 0", "remove 0 ann", "remove ann +0",
    "remove ann bob 0", "undo", "undo ann bob", "undo ann 1", "undo 1", "redo", "redo ann bob", "redo 0", "redo ann ann",
    "sequence .", "sequence ann", "authors ann", "authors .", "need 1", "need ann", "growth 0", "reset ann", "reset .",
    "run", "run 1 2", "run . .", "run 1, 2", "run ann", "run ann 1", "addann +5", "add ann+5", "run1", "run,1",
    *[f"add ann {step}" for step in WRONG_STEPS], *[f"insert ann 0 {step}" for step in WRONG_STEPS],
    *[f"add {name} +5" for name in WRONG_NAMES], *[f"insert {name} 0 +5" for name in WRONG_NAMES],
    *[f"remove {name} 0" for name in WRONG_NAMES], *[f"undo {name}" for name in WRONG_NAMES],
    *[f"redo {name}" for name in WRONG_NAMES], *[f"insert ann {count} +5" for count in WRONG_COUNTS],
    *[f"remove ann {count}" for count in WRONG_COUNTS], *[f"run {numbers}" for numbers in WRONG_NUMBERS],
]
RIGHT = ["add ann +5", "insert ann 0 +5", "insert ann 0 -1", "remove ann 0", "undo ann", "redo ann", "sequence", "authors",
         "need", "growth", "run 5", "run .", "reset"]


def step_text(step):
    word, number = step
    return ("+" if word == "insert" else "-") + str(number)


def numbers_text(numbers):
    return ",".join(str(number) for number in numbers) or "."


def command(kind, arguments):
    """The line of the command that does this action of a log."""
    texts = [step_text(argument) if type(argument) is tuple else str(argument) for argument in arguments]
    return " ".join([kind, *texts])


def answers(console):
    return [answer(console.run, line) for line in (*QUESTIONS, *RUNS)]


def answer(run, line):
    """What the command returns, or the error that it raises, with its field."""
    try:
        return run(line)
    except StepFailed as error:
        return StepFailed, error.index
    except (NothingToUndo, NothingToRedo) as error:
        return type(error), error.user


def model_answer(model, line):
    """What the model of the log says to a question."""
    sequence = Sequence(*model.steps)
    if line == "sequence":
        return " ".join(map(step_text, model.steps)) or "."
    if line == "authors":
        return " ".join(model.authors()) or "."
    if line == "need":
        return str(Effect.of(sequence).need)
    if line == "growth":
        words = [word for word, _ in model.steps]
        return str(words.count("insert") - words.count("remove"))
    numbers = [] if line == "run ." else [int(number) for number in line.split(" ")[1].split(",")]
    return answer(lambda _: numbers_text(sequence(numbers)), line)


class AgainstTheModelTest(unittest.TestCase):
    def check_answers(self, console, model):
        found = answers(console)
        self.assertEqual(found, [model_answer(model, line) for line in (*QUESTIONS, *RUNS)])
        self.assertTrue(all(type(text) is str for text in found if type(text) is not tuple))

    def test_drawn_commands(self):
        for seed in range(24):
            chance = random.Random(1500 + seed)
            console, model = Console(), Model()
            self.check_answers(console, model)
            users = USERS[:1 + seed % 8]
            for _ in range(60):
                if chance.random() < 0.03:
                    self.assertEqual(console.run("reset"), "ok")
                    model = Model()
                kind, arguments = drawn_action(chance, users, len(model.steps))
                if kind != "attempt":
                    wanted = answer(lambda _: getattr(model, kind)(*arguments) or "ok", "")
                    self.assertEqual(answer(console.run, command(kind, arguments)), wanted)
                self.check_answers(console, model)

    def test_lines_that_are_refused_between(self):
        chance = random.Random(1550)
        console, model = Console(), Model()
        for _ in range(150):
            kind, arguments = drawn_action(chance, USERS, len(model.steps))
            line = chance.choice(WRONG)
            check_raises(self, InvalidCommand, line, console.run, line)
            if kind != "attempt":
                self.assertEqual(answer(console.run, command(kind, arguments)),
                                 answer(lambda _: getattr(model, kind)(*arguments) or "ok", ""))
        self.check_answers(console, model)


class AnswerTest(unittest.TestCase):
    def test_empty(self):
        console = Console()
        self.assertEqual([console.run(line) for line in QUESTIONS], [".", ".", "0", "0"])
        self.assertEqual([console.run(line) for line in ("run .", "run 4", "run 9,-1,9,0")], [".", "4", "-1,0,9,9"])

    def test_changes(self):
        console = Console()
        lines = ["add ann +-7", "insert bob 0 +0", "add cid -1", "remove ann 1", "undo ann", "redo ann", "reset"]
        self.assertEqual([console.run(line) for line in lines[:3]], ["ok", "ok", "ok"])
        self.assertEqual([console.run("sequence"), console.run("authors")], ["+0 +-7 -1", "bob ann cid"])
        self.assertEqual([console.run(line) for line in lines[3:6]], ["ok", "ok", "ok"])
        self.assertEqual([console.run("sequence"), console.run("authors")], ["+0 -1", "bob cid"])
        self.assertEqual(console.run("reset"), "ok")
        self.assertEqual([console.run("sequence"), console.run("authors")], [".", "."])

    def test_needs_and_growth(self):
        console = Console()
        for line in (f"add ann -{HUGE}", "add ann -1", "add ann -2"):
            console.run(line)
        self.assertEqual([console.run("need"), console.run("growth")], [str(HUGE), "-3"])
        check_raises(self, StepFailed, 0, console.run, "run 1,2,3")
        console.run(f"insert bob 0 +{HUGE}")
        self.assertEqual([console.run("need"), console.run("growth")], [str(HUGE - 1), "-2"])
        check_raises(self, StepFailed, 1, console.run, "run .")

    def test_results(self):
        console = Console()
        console.run("add ann -1")
        self.assertEqual([console.run("run 7"), console.run("run 7,-3,5"), console.run("run 0,-10")], [".", "5,7", "0"])
        check_raises(self, StepFailed, 0, console.run, "run .")
        self.assertEqual(console.run(f"run {HUGE},{-HUGE}"), str(HUGE))
        numbers = [(at * 17) % 500 for at in range(500)]
        self.assertEqual(console.run("run " + numbers_text(numbers)), numbers_text(range(1, 500)))

    def test_running_changes_nothing(self):
        console = Console()
        console.run("add ann +5")
        for _ in range(2):
            self.assertEqual(console.run("run 1"), "1,5")
            self.assertEqual(console.run("sequence"), "+5")
        console.run("undo ann")
        self.assertEqual(console.run("run 1"), "1")

    def test_reset(self):
        console = Console()
        console.run("add ann +5")
        console.run("add ann +6")
        console.run("undo ann")
        console.run("reset")
        self.assertEqual([console.run(line) for line in QUESTIONS], [".", ".", "0", "0"])
        check_raises(self, NothingToUndo, "ann", console.run, "undo ann")
        check_raises(self, NothingToRedo, "ann", console.run, "redo ann")
        self.assertEqual(console.run("reset"), "ok")

    def test_two_consoles_share_nothing(self):
        first, second = Console(), Console()
        first.run("add ann +5")
        self.assertEqual(second.run("sequence"), ".")
        check_raises(self, NothingToUndo, "ann", second.run, "undo ann")
        second.run("add bob -1")
        first.run("reset")
        self.assertEqual([first.run("sequence"), second.run("sequence")], [".", "-1"])


class ErrorTest(unittest.TestCase):
    def console(self):
        console = Console()
        for line in ("add ann +5", "add bob -2", "add ann +7", "remove bob 0", "undo ann"):
            console.run(line)
        return console

    def check_refused(self, error, field, line):
        console, other = self.console(), self.console()
        check_raises(self, error, field, console.run, line)
        self.assertEqual(answers(console), answers(other))
        for line in ("redo ann", "undo bob", "undo ann", "undo ann", "undo bob", "undo bob", "redo bob", "redo ann"):
            self.assertEqual(answer(console.run, line), answer(other.run, line))
            self.assertEqual(answers(console), answers(other))

    def test_lines_that_are_no_commands(self):
        for line in WRONG:
            check_raises(self, InvalidCommand, line, Console().run, line)
        for line in WRONG[::7]:
            self.check_refused(InvalidCommand, line, line)

    def test_doubled_spaces_and_line_feeds(self):
        for line in RIGHT:
            words = line.split(" ")
            wrong = [f" {line}", f"{line} ", f"{line}\n", f"\n{line}", f"{line}\t", f"{line} .", f"{line} x", f"{line}  ",
                     line.upper(), line.capitalize(), f"{line}\nneed", line.replace(" ", "\n", 1) + "\n"]
            if len(words) > 1:
                wrong += [line.replace(" ", "  ", 1), line.replace(" ", "\n", 1), line.replace(" ", "\t"),
                          "  ".join(words), " ".join(words[:-1]), " ".join(words[1:]), " ".join([*words[:-1], ""])]
            for text in wrong:
                self.check_refused(InvalidCommand, text, text)

    def test_what_is_no_string(self):
        for value in NO_STRINGS:
            check_raises(self, InvalidCommand, value, Console().run, value)
            self.check_refused(InvalidCommand, value, value)

    def test_errors_of_the_log(self):
        # The sequence is -2 now, added by bob; ann can redo +7.
        for index in (2, 3, LONG, HUGE):
            self.check_refused(InvalidNumber, index, f"insert cid {index} +5")
        for index in (1, 2, LONG, HUGE):
            self.check_refused(InvalidNumber, index, f"remove cid {index}")
        self.check_refused(NothingToUndo, "cid", "undo cid")
        self.check_refused(NothingToRedo, "bob", "redo bob")
        self.check_refused(NothingToRedo, "zzzzzzzz", "redo zzzzzzzz")
        self.check_refused(StepFailed, 0, "run .")
        self.check_refused(StepFailed, 0, "run 4")

    def test_a_line_that_is_no_command_goes_first(self):
        for line in ("insert cid 9 +05", "insert cid 9 -0", "insert Cid 9 +5", "remove Cid 9", "undo Cid", "run 4,",
                     "remove cid 09"):
            self.check_refused(InvalidCommand, line, line)

    def test_names_that_are_allowed(self):
        for name in ("a", "z", "abcdefgh", "add", "run", "reset"):
            console = Console()
            self.assertEqual(console.run(f"add {name} +1"), "ok")
            self.assertEqual(console.run("authors"), name)


class FormTest(unittest.TestCase):
    def test_by_name(self):
        console = Console()
        self.assertEqual(console.run(line="add ann +5"), "ok")
        self.assertEqual(console.run(line="sequence"), "+5")

    def test_example(self):
        console = Console()
        console.run("add ann +5")
        console.run("add bob -2")
        self.assertEqual([console.run("sequence"), console.run("need"), console.run("growth"), console.run("run 9"),
                          console.run("run 3,1")], ["+5 -2", "1", "0", "5", "1,5"])


if __name__ == "__main__":
    unittest.main()
