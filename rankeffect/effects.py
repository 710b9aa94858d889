"""Effects: what a sequence does to the number of elements up to each threshold, and so to every list."""

from rankeffect.checks import is_ascending, is_integer
from rankeffect.errors import InvalidEffect, InvalidNumber, StepFailed
from rankeffect.sequences import ascending
from rankeffect.tables import Table, how_many_up_to, kept_rank


def united(first, second):
    """Return the different numbers of both in ascending order."""
    return sorted(set([*first, *second]))


def below_all(breaks):
    """Return a threshold below all of the breaks, which are in ascending order."""
    return breaks[0] - 1 if breaks else 0


def table_at(breaks, tables, threshold):
    """Return the table that applies for the threshold."""
    return tables[how_many_up_to(breaks, threshold)]


def table_of(steps, threshold):
    """Return what the steps do to the number of elements that are at most the threshold."""
    start = 0
    lost = []
    for word, number in steps:
        if word == "insert":
            if number <= threshold:
                start = start + 1
        elif number <= start:
            start = start - 1
        else:
            # The ranks that are kept so far come after the start, in their order.
            place = number - start
            rank = kept_rank(lost, place)
            below = rank - place
            lost[below:below] = [rank]
    return Table(start, lost)


def is_table_list(value):
    """Return whether the value is a list or tuple of tables of which neighboring ones differ."""
    if type(value) not in (list, tuple) or not all([type(table) == Table for table in value]):
        return False
    return all([low != high for low, high in zip(value, value[1:])])


def total_after(effect, numbers, threshold):
    """Return how many elements up to the threshold the ascending list of numbers has after the effect."""
    table = effect.table(threshold)
    return table(how_many_up_to(numbers, threshold))


def spread(values, totals):
    """Return the ascending list that has only these values, and up to each one so many elements in total."""
    result = []
    before = 0
    for value, total in zip(values, totals):
        result.extend([value] * (total - before))
        before = total
    return result


class Effect:
    """The breaks of a sequence and the tables between them; it never changes."""

    def __init__(self, breaks, tables):
        if not is_ascending(breaks) or not is_table_list(tables) or len(tables) != len(breaks) + 1:
            raise InvalidEffect((breaks, tables))
        self._breaks = tuple(breaks)
        self._tables = tuple(tables)

    @classmethod
    def of(cls, sequence):
        """Return the effect of the sequence."""
        steps = sequence.steps
        # Exactly the inserted numbers are breaks: only there the growth of the tables changes.
        breaks = sorted(set([number for word, number in steps if word == "insert"]))
        thresholds = [below_all(breaks), *breaks]
        return cls(breaks, [table_of(steps, threshold) for threshold in thresholds])

    @classmethod
    def nothing(cls):
        """Return the effect of the empty sequence."""
        return cls((), (Table(0, ()),))

    @property
    def breaks(self):
        """The tuple of the breaks, in ascending order."""
        return self._breaks

    @property
    def tables(self):
        """The tuple of the tables: the one below all breaks, and the one from each break on."""
        return self._tables

    @property
    def need(self):
        """How many elements a list must have at least."""
        lost = self._tables[-1].lost
        return lost[-1] if lost else 0

    @property
    def growth(self):
        """By how much the length of a list grows."""
        return self._tables[-1].growth

    def table(self, threshold):
        """Return the table that applies for the threshold."""
        if not is_integer(threshold):
            raise InvalidNumber(threshold)
        return table_at(self._breaks, self._tables, threshold)

    def shifted(self, offset):
        """Return the effect if all inserted numbers are greater by the offset."""
        if not is_integer(offset):
            raise InvalidNumber(offset)
        return Effect([number + offset for number in self._breaks], self._tables)

    def __call__(self, numbers):
        """Return the list after a sequence with this effect, in ascending order."""
        current = ascending(numbers)
        if len(current) < self.need:
            raise StepFailed(None)
        values = united(self._breaks, current)
        return spread(values, [total_after(self, current, value) for value in values])

    def __eq__(self, other):
        return isinstance(other, Effect) and self._breaks == other._breaks and self._tables == other._tables

    def __bool__(self):
        return bool(self._breaks) or bool(self._tables[0])

    def __add__(self, other):
        """The effect of doing what this one does and then what the other one does."""
        breaks = united(self._breaks, other._breaks)
        tables = []
        for threshold in [below_all(breaks), *breaks]:
            first = table_at(self._breaks, self._tables, threshold)
            second = table_at(other._breaks, other._tables, threshold)
            tables.append(first + second)
        return Effect(breaks, tables)

    def __mul__(self, other):
        """The effect repeated as many times as the other operand, a count, tells."""
        result = Effect.nothing()
        for _ in range(other):
            result = result + self
        return result
