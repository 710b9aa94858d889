"""Texts of sequences and effects."""

from rankeffect.checks import is_count, is_rank_list
from rankeffect.effects import Effect
from rankeffect.errors import InvalidEffect, ParseError
from rankeffect.sequences import Sequence
from rankeffect.tables import Table

# Stands where there are no steps, numbers or names.
NOTHING = "."
# Stands where the first table of an effect has no break.
NO_BREAK = "*"


def format_step(step):
    """Return the text of a step."""
    word, number = step
    return f"+{number}" if word == "insert" else f"-{number}"


def format_numbers(numbers, separator):
    """Return the text of the numbers with the separator between them."""
    if not numbers:
        return NOTHING
    return separator.join([str(number) for number in numbers])


def labels(effect):
    """Return for each table the text that tells from where on it applies."""
    return [NO_BREAK, *[str(number) for number in effect.breaks]]


def parsed_integer(text):
    """Return the integer that is written as this text, or None."""
    digits = text[1:] if text.startswith("-") else text
    if not (digits.isascii() and digits.isdigit()):
        return None
    # 0 itself is the only integer that begins with a 0.
    if digits.startswith("0") and text != "0":
        return None
    return int(text)


def parsed_step(text):
    """Return the step that is written as this text, or None."""
    number = parsed_integer(text[1:])
    step = ("insert" if text.startswith("+") else "remove", number)
    if text[:1] in ("+", "-") and Sequence.is_step(step):
        return step
    return None


def parsed_numbers(text):
    """Return the list of the integers that are written as this text, separated by commas, or None."""
    if text == NOTHING:
        return []
    numbers = [parsed_integer(part) for part in text.split(",")]
    return None if None in numbers else numbers


def parsed_break(text, index):
    """Return the break in the line with this index, None in the first one; raise ParseError if it is wrong there."""
    if index == 0 and text == NO_BREAK:
        return None
    number = parsed_integer(text)
    if index == 0 or number is None:
        raise ParseError(index)
    return number


def parsed_table(start, lost, index):
    """Return the table of the line with this index; raise ParseError if it is not written as a table."""
    count, ranks = parsed_integer(start), parsed_numbers(lost)
    if not is_count(count) or not is_rank_list(ranks):
        raise ParseError(index)
    return Table(count, ranks)


def check_text(text):
    """Raise ParseError(None) unless the value is a string."""
    if type(text) != str:
        raise ParseError(None)


def format_sequence(sequence):
    """Return the text of the sequence."""
    if not sequence.steps:
        return NOTHING
    return " ".join([format_step(step) for step in sequence.steps])


def format_effect(effect):
    """Return the text of the effect, with one line for each table."""
    lines = []
    for label, table in zip(labels(effect), effect.tables):
        lost = format_numbers(table.lost, ",")
        lines.append(f"{label} {table.start} {lost}")
    return "\n".join(lines)


def parse_sequence(text):
    """Return the sequence that is written as this text."""
    check_text(text)
    if text == NOTHING:
        return Sequence()
    steps = []
    for index, part in enumerate(text.split(" ")):
        step = parsed_step(part)
        if step is None:
            raise ParseError(index)
        steps.append(step)
    return Sequence(*steps)


def parse_effect(text):
    """Return the effect that is written as this text."""
    check_text(text)
    breaks = []
    tables = []
    for index, line in enumerate(text.split("\n")):
        parts = line.split(" ")
        if len(parts) != 3:
            raise ParseError(index)
        label, start, lost = parts
        breaks.append(parsed_break(label, index))
        tables.append(parsed_table(start, lost, index))
    try:
        return Effect(breaks[1:], tables)
    except InvalidEffect:
        raise ParseError(None)


def effect_grid(effect):
    """Return a text with one line of aligned columns for each table of the effect."""
    lines = []
    for label, table in zip(labels(effect), effect.tables):
        lost = format_numbers(table.lost, " ")
        lines.append(f"{label:>8}{table.start:>6}  {lost}")
    return "\n".join(lines)
