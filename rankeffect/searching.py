"""Searching the sequences of given steps that have an effect."""

from rankeffect.checks import is_count, is_number_list
from rankeffect.effects import Effect
from rankeffect.errors import InvalidList, InvalidNumber
from rankeffect.sequences import Sequence

MOST_NUMBERS = 3
MOST_RANKS = 3
MOST_STEPS = 5


def are_different(numbers):
    """Return whether no number of the list stands in it twice."""
    return len(set(numbers)) == len(numbers)


def check_arguments(numbers, ranks, size):
    """Raise the error of the first argument that is not as required."""
    if not is_number_list(numbers) or len(numbers) > MOST_NUMBERS or not are_different(numbers):
        raise InvalidList(numbers)
    if not is_count(ranks) or ranks > MOST_RANKS:
        raise InvalidNumber(ranks)
    if not is_count(size) or size > MOST_STEPS:
        raise InvalidNumber(size)


def sequences_of(numbers, ranks, length):
    """Return all sequences with so many insertions of the numbers and removals up to this rank, in list order."""
    steps = [("insert", number) for number in sorted(numbers)]
    steps.extend([("remove", rank) for rank in range(1, ranks + 1)])
    found = [()]
    for _ in range(length):
        found = [(*before, step) for before in found for step in steps]
    return [Sequence(*chosen) for chosen in found]


def count_sequences(effect, numbers, ranks, length):
    """Return how many of the sequences with exactly so many steps have the effect."""
    check_arguments(numbers, ranks, length)
    return len([sequence for sequence in sequences_of(numbers, ranks, length) if Effect.of(sequence) == effect])


def first_sequence(effect, numbers, ranks, most):
    """Return the first shortest of the sequences with at most so many steps that has the effect, or None."""
    check_arguments(numbers, ranks, most)
    for length in range(most + 1):
        for sequence in sequences_of(numbers, ranks, length):
            if Effect.of(sequence) == effect:
                return sequence
    return None
