"""Tests of rankeffect.formats: texts of sequences and effects, written and read again."""

import random
import re
import unittest

from tests.drawing import drawn_sequences, inserted
from tests.odd_objects import HUGE, NO_INTEGERS
from tests.raising import check_raises
from rankeffect.effects import Effect
from rankeffect.errors import InvalidEffect, ParseError
from rankeffect.formats import effect_grid, format_effect, format_sequence, parse_effect, parse_sequence
from rankeffect.sequences import Sequence
from rankeffect.tables import Table

LONG = 10 ** 59  # a number with 60 digits
NO_TEXTS = [*[value for value in NO_INTEGERS if type(value) is not str], 0, 1, [], ["."], (".",), ["+5"], b".", b"+5 -2",
            bytearray(b"."), Sequence(), Effect.nothing(), ("insert", 5)]
SEQUENCES = [
    Sequence(),
    Sequence(("insert", 5), ("remove", 2)),
    Sequence(("insert", 0)),
    Sequence(("insert", -1), ("insert", -10), ("insert", 10)),
    Sequence(("remove", 1), ("remove", 10), ("insert", 100)),
    Sequence(("insert", LONG), ("remove", LONG + 1), ("insert", -LONG), ("insert", 12345678901 * 10 ** 49)),
    Sequence(("insert", HUGE), ("insert", -HUGE), ("remove", HUGE)),
    *drawn_sequences(1301, 80, 9, (-12, 0, 7, LONG), 12),
]
EFFECTS = [
    *[Effect.of(sequence) for sequence in SEQUENCES],
    # No sequence has these.
    Effect((5,), (Table(3, ()), Table(0, (1, 2, 9)))),
    Effect((-LONG, -3, 0), (Table(LONG, (LONG,)), Table(0, ()), Table(0, (4, LONG + 4)), Table(7, ()))),
    Effect((), (Table(4, (2, 3)),)),
]
INTEGER = r"(?:0|-?[1-9][0-9]*)"
COUNT = r"(?:0|[1-9][0-9]*)"
STEP = re.compile(rf"\+({INTEGER})|-([1-9][0-9]*)")
LINE = re.compile(rf"(\*|{INTEGER}) ({COUNT}) (\.|[1-9][0-9]*(?:,[1-9][0-9]*)*)")
SIGNS = "+-.,*0123456789  \n#aX"


def step_in(part):
    """The step that the text is, as point [14] says, or None."""
    match = STEP.fullmatch(part)
    if match is None:
        return None
    return ("remove", int(match[2])) if match[1] is None else ("insert", int(match[1]))


def read_sequence(text):
    """The steps, or the index of the first wrong part."""
    if text == ".":
        return []
    steps = [step_in(part) for part in text.split(" ")]
    return steps.index(None) if None in steps else steps


def read_line(line, is_first):
    """The break, or None, with start and lost ranks; or False if the line is wrong."""
    match = LINE.fullmatch(line)
    if match is None or (match[1] == "*") != is_first:
        return False
    lost = [] if match[3] == "." else [int(rank) for rank in match[3].split(",")]
    if lost != sorted(set(lost)):
        return False
    return None if is_first else int(match[1]), int(match[2]), tuple(lost)


def read_effect(text):
    """The breaks and tables; the index of the first wrong line; or None if only the whole is wrong."""
    rows = [read_line(line, index == 0) for index, line in enumerate(text.split("\n"))]
    if False in rows:
        return rows.index(False)
    breaks = [row[0] for row in rows[1:]]
    tables = [row[1:] for row in rows]
    if breaks != sorted(set(breaks)) or any(low == high for low, high in zip(tables, tables[1:])):
        return None
    return breaks, tables


def changed(chance, text, separator):
    """The text with a character, a part or a line replaced, inserted, removed, doubled or exchanged."""
    kind = chance.randrange(7)
    at = chance.randint(0, len(text))
    if kind == 0:
        return text[:at] + chance.choice(SIGNS) + text[at:]
    if kind == 1:
        return text[:at] + text[at + 1:]
    if kind == 2:
        return text[:at] + chance.choice(SIGNS) + text[at + 1:]
    parts = text.split(separator)
    at, other = chance.randrange(len(parts)), chance.randrange(len(parts))
    if kind == 3:
        parts.insert(at, parts[at])
    elif kind == 4:
        parts[at], parts[other] = parts[other], parts[at]
    elif kind == 5:
        del parts[at]
    else:
        parts.insert(other, parts[at])
    return separator.join(parts)


class Texts(unittest.TestCase):
    def check_sequence(self, text):
        wanted = read_sequence(text)
        if type(wanted) is int:
            check_raises(self, ParseError, wanted, parse_sequence, text)
            return False
        found = parse_sequence(text)
        self.assertIs(type(found), Sequence)
        self.assertEqual(found.steps, tuple(wanted))
        self.assertEqual(format_sequence(found), text)
        return True

    def check_effect(self, text):
        wanted = read_effect(text)
        if type(wanted) is not tuple:
            check_raises(self, ParseError, wanted, parse_effect, text)
            return wanted
        found = parse_effect(text)
        self.assertIs(type(found), Effect)
        self.assertEqual(found.breaks, tuple(wanted[0]))
        self.assertEqual([(table.start, table.lost) for table in found.tables], wanted[1])
        self.assertEqual(format_effect(found), text)
        return True


class SequenceTest(Texts):
    def test_written(self):
        cases = [((), "."), ((("insert", 0),), "+0"), ((("insert", -5),), "+-5"), ((("remove", 1),), "-1"),
                 ((("insert", 5), ("remove", 2)), "+5 -2"), ((("remove", 10), ("remove", 1)), "-10 -1"),
                 ((("insert", -120), ("remove", 30), ("insert", 7)), "+-120 -30 +7"),
                 ((("insert", LONG), ("insert", -LONG)), "+1" + "0" * 59 + " +-1" + "0" * 59)]
        for steps, text in cases:
            self.assertEqual(format_sequence(Sequence(*steps)), text)
            self.assertEqual(parse_sequence(text), Sequence(*steps))

    def test_read_again(self):
        for sequence in SEQUENCES:
            text = format_sequence(sequence)
            self.assertIs(type(text), str)
            self.assertEqual(parse_sequence(text), sequence)
            self.assertTrue(self.check_sequence(text))
            self.assertEqual(text.split(" "), [("+" if word == "insert" else "-") + str(number)
                                               for word, number in sequence.steps] or ["."])

    def test_many_steps(self):
        sequence = Sequence(*[("insert", -at) if at % 2 else ("remove", at + 1) for at in range(200)])
        self.assertEqual(parse_sequence(format_sequence(sequence)), sequence)

    def test_wrong_parts(self):
        wrong = ["", "+", "-", "+-", "--", "++", "+05", "+00", "+-0", "+-05", "-0", "-00", "-01", "--1", "-+1", "++1",
                 "5", "0", "-1.", "+1.", "+1.0", "+1e5", "+1_000", "-1_0", "+0x1", "+a", "-a", "a", "+5-2", "+5,", "+ ",
                 ".", "..", "*", "+.", "-.", "\n", "+5\n", "\n+5", "+5\t", "\t", "+5\n-2", "(", "insert", "+one", "- 1",
                 "+" + "0" * 100, "-0" + str(LONG)]
        for part in wrong:
            if " " in part:
                check_raises(self, ParseError, 0, parse_sequence, part)
                continue
            if part != ".":
                check_raises(self, ParseError, 0, parse_sequence, part)
            check_raises(self, ParseError, 1, parse_sequence, f"+5 {part}")
            check_raises(self, ParseError, 0, parse_sequence, f"{part} +5")
            check_raises(self, ParseError, 2, parse_sequence, f"-1 +-7 {part} -2 +3")
            check_raises(self, ParseError, 1, parse_sequence, f"-1 {part} {part}")

    def test_spaces(self):
        for text, index in (("", 0), (" ", 0), ("  ", 0), (" +5", 0), ("+5 ", 1), ("+5  -2", 1), ("+5 -2 ", 2),
                            ("+5 -2  ", 2), (" .", 0), (". ", 0), (". .", 0), (". +5", 0), ("+5 .", 1), ("+5 . -0", 1),
                            ("+5 -0 .", 1), (".\n", 0), ("\n.", 0), ("+5 -2\n", 1), ("\n", 0), ("+5\n-2", 0)):
            check_raises(self, ParseError, index, parse_sequence, text)
            self.assertEqual(read_sequence(text), index)

    def test_changed_texts(self):
        chance = random.Random(1302)
        fine = 0
        for sequence in [*SEQUENCES, *SEQUENCES]:
            for _ in range(40):
                text = format_sequence(sequence)
                for _ in range(chance.randint(1, 3)):
                    text = changed(chance, text, " ")
                fine += self.check_sequence(text)
        self.assertGreater(fine, 300)
        self.assertLess(fine, 6000)

    def test_what_is_no_text(self):
        for value in NO_TEXTS:
            check_raises(self, ParseError, None, parse_sequence, value)


class EffectTest(Texts):
    def test_written(self):
        cases = [(Effect.nothing(), "* 0 ."), (Effect((), (Table(12, (1, 20)),)), "* 12 1,20"),
                 (Effect((-7, 0), (Table(0, (3,)), Table(1, ()), Table(10, (2, 4, 6)))), "* 0 3\n-7 1 .\n0 10 2,4,6"),
                 (Effect((LONG,), (Table(LONG, ()), Table(0, (LONG,)))), f"* {LONG} .\n{LONG} 0 {LONG}")]
        for effect, text in cases:
            self.assertEqual(format_effect(effect), text)
            self.assertEqual(parse_effect(text), effect)

    def test_read_again(self):
        for effect in EFFECTS:
            text = format_effect(effect)
            self.assertIs(type(text), str)
            self.assertEqual(parse_effect(text), effect)
            self.assertIs(self.check_effect(text), True)
            self.assertEqual(len(text.split("\n")), len(effect.tables))

    def test_many_steps(self):
        sequence = Sequence(*[("insert", at * 7 - 400) if at % 3 == 1 else ("remove", at * at % 140 + 1)
                              for at in range(150)])
        effect = Effect.of(sequence)
        self.assertEqual(len(effect.breaks), len(inserted(sequence)))
        self.assertEqual(parse_effect(format_effect(effect)), effect)
        removals = Effect.of(Sequence(*[("remove", 1 + at) for at in range(150)]))
        self.assertEqual(parse_effect(format_effect(removals)), removals)

    def test_wrong_lines(self):
        wrong = ["", " ", "5", "5 0", "5 0 . .", "5  0 .", " 5 0 .", "5 0 . ", "5 0  .", "05 0 .", "-0 0 .", "+5 0 .",
                 "5 00 .", "5 01 .", "5 -1 .", "5 -0 .", "5 +1 .", "5 0 0", "5 0 0,1", "5 0 -1", "5 0 01", "5 0 1,",
                 "5 0 ,1", "5 0 ,", "5 0 1,,2", "5 0 1, 2", "5 0 2,1", "5 0 1,1", "5 0 3,4,4", "5 0 1,3,2", "5 0 .,1",
                 "5 0 1,.", "5 0 ..", "5 0 *", "5 0 +1", "* 0 .", "** 0 .", ". 0 .", "5 . .", "5 * .", "x 0 .", "5 x .",
                 "5 0 x", "5,0,.", "5\t0\t.", "5 0 1;2", "5 0 1.", "--5 0 .", "5 0 1_0", "5 1_0 .", "5_0 0 ."]
        for line in wrong:
            self.assertIs(type(read_line(line, False)), bool)
            check_raises(self, ParseError, 1, parse_effect, f"* 3 .\n{line}")
            check_raises(self, ParseError, 1, parse_effect, f"* 3 .\n{line}\n7 0 .\n8 1 .")
            check_raises(self, ParseError, 2, parse_effect, f"* 3 .\n-9 0 .\n{line}\n{line}")
            first = line.replace("5", "*", 1) if line.startswith("5") else line
            if line != "* 0 .":
                check_raises(self, ParseError, 0, parse_effect, first)
                check_raises(self, ParseError, 0, parse_effect, f"{first}\n5 0 .")

    def test_first_lines(self):
        for line in ("5 0 .", "0 0 .", "-1 0 1", ". 0 .", "** 0 .", "0 .", " * 0 .", "*  0 .", "* 0 . ", "*"):
            check_raises(self, ParseError, 0, parse_effect, line)
            check_raises(self, ParseError, 0, parse_effect, f"{line}\nx")

    def test_line_feeds(self):
        for text, index in (("", 0), ("\n", 0), ("* 0 .\n", 1), ("\n* 0 .", 0), ("* 0 .\n\n5 1 .", 1),
                            ("* 0 .\n5 1 .\n", 2), ("* 0 .\n5 1 .\n\n", 2), ("* 0 1\n,2", 1), ("* 0 . 5 1 .", 0)):
            check_raises(self, ParseError, index, parse_effect, text)
            self.assertEqual(read_effect(text), index)

    def test_only_the_whole_is_refused(self):
        for text in ("* 0 .\n5 0 .", "* 0 .\n5 1 .\n5 2 .", "* 0 .\n5 1 .\n4 2 .", "* 0 1\n5 1 .\n6 1 .",
                     "* 0 .\n1 1 .\n-1 0 .", f"* 0 .\n{LONG} 1 .\n{-LONG} 2 .", "* 2 1,3\n0 2 1,3"):
            check_raises(self, ParseError, None, parse_effect, text)
            self.assertIsNone(read_effect(text))
        # A wrong line goes first, even behind what makes the whole wrong.
        check_raises(self, ParseError, 3, parse_effect, "* 0 .\n5 0 .\n5 0 .\n6 0 2,1")
        check_raises(self, ParseError, 2, parse_effect, "* 0 .\n5 0 .\n* 0 .")

    def test_the_error_is_that_of_the_text(self):
        try:
            parse_effect("* 0 .\n5 0 .")
        except ParseError as error:
            self.assertNotIsInstance(error, InvalidEffect)
            self.assertIsNone(error.line)

    def test_changed_texts(self):
        chance = random.Random(1303)
        found = []
        for effect in [*EFFECTS, *EFFECTS]:
            for _ in range(40):
                text = format_effect(effect)
                for _ in range(chance.randint(1, 3)):
                    text = changed(chance, text, chance.choice("\n\n ,"))
                found.append(self.check_effect(text))
        self.assertGreater(found.count(True), 300)
        self.assertGreater(found.count(None), 100)
        self.assertGreater(len([index for index in found if type(index) is int]), 1000)

    def test_what_is_no_text(self):
        for value in NO_TEXTS:
            check_raises(self, ParseError, None, parse_effect, value)


class GridTest(unittest.TestCase):
    def test_against_padded_columns(self):
        for effect in EFFECTS:
            wanted = []
            for label, table in zip(["*", *effect.breaks], effect.tables):
                lost = " ".join(map(str, table.lost)) or "."
                wanted.append(str(label).rjust(8) + str(table.start).rjust(6) + "  " + lost)
            self.assertEqual(effect_grid(effect), "\n".join(wanted))

    def test_short_ones(self):
        self.assertEqual(effect_grid(Effect.nothing()), "       *     0  .")
        effect = Effect((-12, 345), (Table(0, (1, 2, 30)), Table(1, ()), Table(23, (7,))))
        self.assertEqual(effect_grid(effect), "       *     0  1 2 30\n     -12     1  .\n     345    23  7")

    def test_long_numbers(self):
        effect = Effect((-1234567, 12345678, 123456789, LONG),
                        (Table(99999, ()), Table(100000, (1,)), Table(1234567, (LONG, LONG + 1)), Table(LONG, (5,)),
                         Table(0, ())))
        self.assertEqual(effect_grid(effect).split("\n"), [
            "       * 99999  .", "-1234567100000  1", f"123456781234567  {LONG} {LONG + 1}", f"123456789{LONG}  5",
            f"{LONG}     0  ."])

    def test_kind(self):
        self.assertIs(type(effect_grid(Effect.nothing())), str)


class FormTest(unittest.TestCase):
    def test_by_name(self):
        sequence = Sequence(("insert", 5))
        effect = Effect.of(sequence)
        self.assertEqual(format_sequence(sequence=sequence), "+5")
        self.assertEqual(format_effect(effect=effect), "* 0 .\n5 1 .")
        self.assertEqual(effect_grid(effect=effect), "       *     0  .\n       5     1  .")
        self.assertEqual(parse_sequence(text="+5"), sequence)
        self.assertEqual(parse_effect(text="* 0 .\n5 1 ."), effect)

    def test_examples(self):
        sequence = parse_sequence("+5 -2")
        self.assertEqual([format_sequence(sequence), format_effect(Effect.of(sequence)),
                          effect_grid(Effect.of(sequence))],
                         ["+5 -2", "* 0 2\n5 1 1", "       *     0  2\n       5     1  1"])
        check_raises(self, ParseError, 1, parse_sequence, "+5 -0")


if __name__ == "__main__":
    unittest.main()
