"""What stays in each gap between the breaks of an effect."""

from rankeffect.checks import is_count, is_count_list
from rankeffect.effects import spread
from rankeffect.errors import InvalidNumber, StepFailed


def kept(effect, counts):
    """Return how many old elements of each gap stay, and how many copies of each break there are then."""
    if not is_count_list(counts) or len(counts) != len(effect.tables):
        raise InvalidNumber(counts)
    if sum(counts) < effect.need:
        raise StepFailed(None)
    stay = []
    copies = []
    old = 0
    total = 0
    for table, count in zip(effect.tables, counts):
        # No old element equals the break, so up to it there are as many of them as below it.
        with_break = table(old)
        copies.append(with_break - total)
        old = old + count
        total = table(old)
        stay.append(total - with_break)
    # The first gap has no break at its lower end.
    return stay, copies[1:]


def kept_numbers(effect, length):
    """Return the inserted numbers that stay if all of so many old elements are greater than the breaks."""
    if not is_count(length):
        raise InvalidNumber(length)
    if length < effect.need:
        raise StepFailed(None)
    # No old element is up to a break, so its table tells what becomes of no elements.
    return spread(effect.breaks, [table.start for table in effect.tables[1:]])
