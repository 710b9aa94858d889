"""Which sequences agree with observed lists, and which list separates sequences best."""

from rankeffect.checks import is_list_of_lists, is_number_list
from rankeffect.errors import InvalidFacts, InvalidList, StepFailed


def is_fact(value):
    """Return whether the value is a tuple of a list of numbers, and of a list of numbers or None."""
    if type(value) != tuple or len(value) != 2:
        return False
    before, after = value
    return is_number_list(before) and (after is None or is_number_list(after))


def is_fact_list(value):
    """Return whether the value is a list or tuple of facts."""
    return type(value) in (list, tuple) and all([is_fact(fact) for fact in value])


def result_of(sequence, numbers):
    """Return the ascending list after the sequence, or None if it fails."""
    try:
        return sequence(numbers)
    except StepFailed:
        return None


def agrees(sequence, facts):
    """Return whether the sequence agrees with all facts."""
    for before, after in facts:
        wanted = None if after is None else sorted(after)
        if result_of(sequence, before) != wanted:
            return False
    return True


def greatest_group(sequences, numbers):
    """Return how many sequences at most have the same result on the list."""
    sizes = {}
    for sequence in sequences:
        result = result_of(sequence, numbers)
        key = None if result is None else tuple(result)
        sizes[key] = sizes.get(key, 0) + 1
    return max(sizes.values(), default=0)


def agreeing(sequences, facts):
    """Return the indices of the sequences that agree with all facts, in ascending order."""
    if not is_fact_list(facts):
        raise InvalidFacts(facts)
    return [index for index, sequence in enumerate(sequences) if agrees(sequence, facts)]


def best_list(sequences, lists):
    """Return the least index of a list that separates the sequences best, or None if there are no lists."""
    if not is_list_of_lists(lists):
        raise InvalidList(lists)
    sizes = [greatest_group(sequences, numbers) for numbers in lists]
    return sizes.index(min(sizes)) if sizes else None
