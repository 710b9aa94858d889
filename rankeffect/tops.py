"""Steps with ranks from the top, and medians, on lists of a given length."""

from rankeffect.checks import is_count, is_rank
from rankeffect.errors import InvalidNumber, InvalidStep, StepFailed
from rankeffect.sequences import Sequence


def is_any_step(value):
    """Return whether the value is a step, a removal of a rank from the top, or one of the median."""
    if Sequence.is_step(value):
        return True
    if type(value) != tuple or len(value) == 0:
        return False
    word, *others = value
    # The word can be any object, whose own comparison must not be asked.
    if type(word) != str:
        return False
    if word == "median":
        return not others
    return word == "top" and len(others) == 1 and is_rank(others[0])


def ordinary_step(length, step):
    """Return the step, on lists of this length, as an insertion or as a removal of a rank from the bottom."""
    if step[0] == "top":
        return "remove", length + 1 - step[1]
    if step[0] == "median":
        return "remove", (length + 1) // 2
    return step


def resolved(length, steps):
    """Return the sequence of ordinary steps that does the same to all lists of this length."""
    if not is_count(length):
        raise InvalidNumber(length)
    if type(steps) not in (list, tuple):
        raise InvalidStep(steps)
    for step in steps:
        if not is_any_step(step):
            raise InvalidStep(step)
    found = []
    for index, step in enumerate(steps):
        word, number = ordinary_step(length, step)
        # A rank that is counted from the top, and the median of no elements, can come out as 0 or less.
        if word == "remove" and not 1 <= number <= length:
            raise StepFailed(index)
        length = length + 1 if word == "insert" else length - 1
        found.append((word, number))
    return Sequence(*found)
