"""What several tests run through: drawn sequences, short lists, and what counting step by step finds."""

import itertools
import random

from rankeffect.errors import StepFailed
from rankeffect.sequences import Sequence


def drawn_sequences(seed, many, most_steps, numbers, greatest_rank):
    """So many sequences, always the same ones, of insertions of these numbers and removals up to this rank."""
    chance = random.Random(seed)
    steps = [("insert", number) for number in numbers] * (greatest_rank // len(numbers) + 1)
    steps += [("remove", rank) for rank in range(1, greatest_rank + 1)]
    return [Sequence(*[chance.choice(steps) for _ in range(chance.randint(0, most_steps))]) for _ in range(many)]


def short_lists(values, most):
    """All ascending lists of at most so many elements, each of which is one of the values."""
    values = sorted(set(values))
    return [list(numbers) for size in range(most + 1)
            for numbers in itertools.combinations_with_replacement(values, size)]


def inserted(sequence):
    return sorted({number for word, number in sequence.steps if word == "insert"})


def around(numbers):
    """The numbers and their neighbors, or a single number if there are none."""
    return sorted({number + offset for number in numbers for offset in (-1, 0, 1)}) or [0]


def count_after(sequence, threshold, count):
    """What the steps, one by one, make of so many elements that are at most the threshold."""
    for word, number in sequence.steps:
        if word == "insert" and number <= threshold:
            count += 1
        if word == "remove" and number <= count:
            count -= 1
    return count


def outcome(run, numbers):
    """The result on the list, or None if it fails."""
    try:
        return run(numbers)
    except StepFailed:
        return None


def shifted_sequence(sequence, offset):
    return Sequence(*[(word, number + offset) if word == "insert" else (word, number)
                      for word, number in sequence.steps])
