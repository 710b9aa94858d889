"""Comparing two effects: where their tables differ first, and a list that tells them apart."""

from rankeffect.checks import MOST_ELEMENTS, is_number_list
from rankeffect.effects import below_all, total_after, united
from rankeffect.errors import LimitExceeded


def least_difference(first, second):
    """Return the least count for which the tables differ, or None if they are equal."""
    if first.start != second.start:
        return 0
    for one, other in zip(first.lost, second.lost):
        if one != other:
            return min(one, other)
    shared = min(len(first.lost), len(second.lost))
    rest = first.lost[shared:] + second.lost[shared:]
    return rest[0] if rest else None


def first_difference(first, second):
    """Return (threshold, count) of a difference with the least such count, or None if the effects are equal."""
    breaks = united(first.breaks, second.breaks)
    found = None
    # The threshold below all breaks is looked at last, since any break goes before it.
    for threshold in [*breaks, below_all(breaks)]:
        count = least_difference(first.table(threshold), second.table(threshold))
        if count is not None and (found is None or count < found[1]):
            found = (threshold, count)
    return found


def separating_list(first, second):
    """Return a shortest list on which the effects differ, or None if they are equal."""
    found = first_difference(first, second)
    if found is None:
        return None
    threshold, count = found
    # With different needs, exactly one of both fails first at the smaller need. With
    # equal needs, both succeed from there on, and so many elements make their results differ.
    length = min(first.need, second.need)
    if first.need == second.need:
        length = max(length, count)
    if length > MOST_ELEMENTS:
        raise LimitExceeded(MOST_ELEMENTS)
    low = min(length, count)
    return [threshold] * low + [threshold + 1] * (length - low)


def is_separating(first, second, value):
    """Return whether the value is a list of numbers on which the results differ or exactly one fails."""
    if not is_number_list(value):
        return False
    if len(value) < max(first.need, second.need):
        return len(value) >= min(first.need, second.need)
    numbers = sorted(value)
    thresholds = united(united(first.breaks, second.breaks), numbers)
    return any([total_after(first, numbers, threshold) != total_after(second, numbers, threshold)
                for threshold in thresholds])
