"""Tables: maps of counts that are described by a start and by lost ranks."""

from rankeffect.checks import is_count, is_rank_list
from rankeffect.errors import InvalidNumber, InvalidTable


def how_many_up_to(numbers, limit):
    """Return how many of the numbers, none of which is less than the one before, are at most the limit."""
    low, high = 0, len(numbers)
    while low < high:
        middle = (low + high) // 2
        if numbers[middle] <= limit:
            low = middle + 1
        else:
            high = middle
    return low


def mapped(start, lost, count):
    """Return what the count becomes in the table with this start and these lost ranks."""
    return start + count - how_many_up_to(lost, count)


def kept_rank(lost, place):
    """Return the rank that has this place, from 1, among the ranks that are not lost."""
    # Below lost[index] there are lost[index] - 1 - index kept ranks, so it is
    # below the kept rank at the place exactly if lost[index] - index is at most the place.
    low, high = 0, len(lost)
    while low < high:
        middle = (low + high) // 2
        if lost[middle] - middle <= place:
            low = middle + 1
        else:
            high = middle
    return place + low


class Table:
    """A map of counts: start + count minus the number of lost ranks that are at most the count."""

    def __init__(self, start, lost):
        if not is_count(start) or not is_rank_list(lost):
            raise InvalidTable((start, lost))
        self._start = start
        self._lost = tuple(lost)

    @property
    def start(self):
        """What the count 0 becomes."""
        return self._start

    @property
    def lost(self):
        """The tuple of the lost ranks, in ascending order."""
        return self._lost

    @property
    def growth(self):
        """By how much every count grows that is at least the greatest lost rank."""
        return self._start - len(self._lost)

    def least(self, count):
        """Return the least count that becomes at least this one."""
        if not is_count(count):
            raise InvalidNumber(count)
        if count <= self._start:
            return 0
        return kept_rank(self._lost, count - self._start)

    def __call__(self, count):
        """Return what the count becomes."""
        if not is_count(count):
            raise InvalidNumber(count)
        return mapped(self._start, self._lost, count)

    def __eq__(self, other):
        return isinstance(other, Table) and self._start == other._start and self._lost == other._lost

    def __bool__(self):
        return bool(self._start) or bool(self._lost)

    def __add__(self, other):
        """The table that does what this one does and then what the other one does."""
        # The first table makes each of its kept ranks one of the ranks above its
        # start; what the second table loses of these, both together lose there.
        found = [kept_rank(self._lost, rank - self._start) for rank in other._lost if rank > self._start]
        start = mapped(other._start, other._lost, self._start)
        return Table(start, sorted([*self._lost, *found]))
