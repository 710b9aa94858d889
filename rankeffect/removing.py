"""When a sequence that is repeated without end removes which old elements, all of them below what it inserts."""

from rankeffect.checks import is_count, is_rank, is_times
from rankeffect.effects import table_of
from rankeffect.errors import InvalidNumber
from rankeffect.tables import how_many_up_to, kept_rank


def removed_ranks(steps):
    """Return the ranks of the old elements that the steps remove, in ascending order."""
    # The insertions are left out, since no old element is above what they insert.
    removals = [step for step in steps if step[0] == "remove"]
    return table_of(removals, 0).lost


def is_removal(steps, index):
    """Return whether the value is the index of a removal."""
    return is_count(index) and index < len(steps) and steps[index][0] == "remove"


def rank_before(lost, times, rank):
    """Return the rank that the old element with this rank had so many repetitions earlier."""
    # Each repetition passes as many lost ranks as long as the rank stays below the next
    # one, so all of these are undone in one go. At least one rank is passed, because
    # the element is removed at last.
    while times > 0:
        passed = kept_rank(lost, rank) - rank
        many = times
        if passed < len(lost):
            many = min(times, (lost[passed] - rank - 1) // passed)
        rank = rank + many * passed
        times = times - many
    return rank


def removing_step(steps, rank):
    """Return the index of the step that removes the old element with this rank, which is one of the removed ones."""
    for index, (word, number) in enumerate(steps):
        if word == "remove" and number == rank:
            return index
        if word == "remove" and number < rank:
            rank = rank - 1


def old_rank(sequence, repetition, index):
    """Return the rank at the very beginning of the old element that this step removes in this repetition."""
    steps = sequence.steps
    if not is_times(repetition):
        raise InvalidNumber(repetition)
    if not is_removal(steps, index):
        raise InvalidNumber(index)
    rank = kept_rank(removed_ranks(steps[:index]), steps[index][1])
    return rank_before(removed_ranks(steps), repetition, rank)


def removal_of(sequence, rank):
    """Return (repetition, index) of the step that removes the old element with this rank, or None."""
    if not is_rank(rank):
        raise InvalidNumber(rank)
    lost = removed_ranks(sequence.steps)
    repetition = 0
    passed = how_many_up_to(lost, rank)
    while passed > 0 and lost[passed - 1] != rank:
        # The rank falls by the same number until it comes to the next lost rank or below it.
        many = (rank - lost[passed - 1] + passed - 1) // passed
        rank = rank - many * passed
        repetition = repetition + many
        passed = how_many_up_to(lost, rank)
    if passed == 0:
        return None
    return repetition, removing_step(sequence.steps, rank)


def never_removed(sequence):
    """Return how many old elements are never removed, or None if the sequence has no removal."""
    lost = removed_ranks(sequence.steps)
    return lost[0] - 1 if lost else None
