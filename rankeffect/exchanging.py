"""Exchanging neighboring steps without changing the effect."""

from rankeffect.checks import is_count
from rankeffect.effects import table_of
from rankeffect.errors import InvalidNumber
from rankeffect.sequences import Sequence


def exchanged_pair(first, second):
    """Return both steps in the other order, or None if one is an insertion and the other one a removal."""
    if first[0] != second[0]:
        return None
    if first[0] == "insert":
        return second, first
    rank, later = first[1], second[1]
    if later >= rank:
        return ("remove", later + 1), ("remove", rank)
    return ("remove", later), ("remove", rank - 1)


def longest_parts(steps):
    """Return the lists of neighboring steps that are all insertions or all removals, each as long as possible."""
    parts = []
    for step in steps:
        if parts and parts[-1][0][0] == step[0]:
            parts[-1].append(step)
        else:
            parts.append([step])
    return parts


def normal_part(part):
    """Return the normal form of steps that are all insertions or all removals."""
    if part[0][0] == "insert":
        return sorted(part)
    # Going downwards, no removal changes the ranks of the elements that are removed after it.
    return [("remove", rank) for rank in reversed(table_of(part, 0).lost)]


def exchanged(sequence, index):
    """Return the sequence with the steps at index and index + 1 exchanged, or None if they cannot be."""
    steps = sequence.steps
    if not is_count(index) or index + 1 >= len(steps):
        raise InvalidNumber(index)
    pair = exchanged_pair(steps[index], steps[index + 1])
    if pair is None:
        return None
    changed = steps[:index] + pair + steps[index + 2:]
    return Sequence(*changed)


def normal_form(sequence):
    """Return the normal form, which is the same for all sequences that exchanges lead to."""
    steps = []
    for part in longest_parts(sequence.steps):
        steps.extend(normal_part(part))
    return Sequence(*steps)


def is_connected(first, second):
    """Return whether exchanges lead from one sequence to the other one."""
    return normal_form(first) == normal_form(second)
