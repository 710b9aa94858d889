"""Effects that are repeated very often."""

from rankeffect.checks import MOST_ELEMENTS, is_count, is_rank, is_times
from rankeffect.effects import spread, united
from rankeffect.errors import InvalidNumber, LimitExceeded, StepFailed
from rankeffect.sequences import ascending
from rankeffect.tables import how_many_up_to


def moves_in_part(lost, passed, move, count):
    """Return how many moves, which are not 0, lead the count out of the part between the lost ranks next to it."""
    if move > 0:
        return (lost[passed] - count + move - 1) // move
    return (count - lost[passed - 1]) // -move + 1


def repeated(table, times, count):
    """Return what the count becomes if the table is applied so many times."""
    # Between two neighboring lost ranks, the table moves all counts by the same number. It
    # leads no count back to a part that it has left, so each part is passed in one go.
    start, lost = table.start, table.lost
    while times > 0:
        passed = how_many_up_to(lost, count)
        move = start - passed
        if move == 0:
            return count
        many = times
        if move < 0 or passed < len(lost):
            many = min(times, moves_in_part(lost, passed, move, count))
        count = count + many * move
        times = times - many
    return count


def greatest_lost(table, times):
    """Return the greatest lost rank of the table that is applied so many times, or 0."""
    if times == 0 or not table.lost:
        return 0
    # The last time that the table is applied, a shrinking count must still reach its greatest lost rank.
    return table.lost[-1] + (times - 1) * max(0, -table.growth)


class Repetition:
    """An effect that is repeated so many times; it never changes."""

    def __init__(self, effect, times):
        if not is_times(times):
            raise InvalidNumber(times)
        self._effect = effect
        self._times = times

    @property
    def need(self):
        """How many elements a list must have at least."""
        return greatest_lost(self._effect.tables[-1], self._times)

    @property
    def growth(self):
        """By how much the length of a list grows."""
        return self._effect.growth * self._times

    def count(self, threshold, count):
        """Return what this number of elements that are at most the threshold becomes."""
        table = self._effect.table(threshold)
        if not is_count(count):
            raise InvalidNumber(count)
        return repeated(table, self._times, count)

    def loses(self, threshold, rank):
        """Return whether the rank is lost in the table of the threshold."""
        table = self._effect.table(threshold)
        if not is_rank(rank):
            raise InvalidNumber(rank)
        return repeated(table, self._times, rank) == repeated(table, self._times, rank - 1)

    def lost_up_to(self, threshold, count):
        """Return how many lost ranks of the table of the threshold are at most the count."""
        table = self._effect.table(threshold)
        if not is_count(count):
            raise InvalidNumber(count)
        return repeated(table, self._times, 0) + count - repeated(table, self._times, count)

    def nth_lost(self, threshold, index):
        """Return the lost rank with this index, from 0, in the table of the threshold, or None."""
        table = self._effect.table(threshold)
        if not is_count(index):
            raise InvalidNumber(index)
        low, high = 0, greatest_lost(table, self._times)
        if index >= self.lost_up_to(threshold, high):
            return None
        # Up to a count there are more lost ranks than the index tells if it exceeds what it becomes by more than this.
        excess = index - repeated(table, self._times, 0)
        while low < high:
            middle = (low + high) // 2
            if middle - repeated(table, self._times, middle) > excess:
                high = middle
            else:
                low = middle + 1
        return low

    def __call__(self, numbers):
        """Return the list after the repetitions, in ascending order."""
        current = ascending(numbers)
        if len(current) < self.need:
            raise StepFailed(None)
        if len(current) + self.growth > MOST_ELEMENTS:
            raise LimitExceeded(MOST_ELEMENTS)
        values = united(self._effect.breaks, current)
        return spread(values, [self.count(value, how_many_up_to(current, value)) for value in values])
