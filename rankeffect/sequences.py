"""Sequences of steps, and what they do to a list of numbers."""

from rankeffect.checks import is_integer, is_number_list, is_rank
from rankeffect.errors import InvalidList, InvalidStep, StepFailed


def ascending(numbers):
    """Return a new list of the numbers in ascending order; raise InvalidList if it is no list of numbers."""
    if not is_number_list(numbers):
        raise InvalidList(numbers)
    return sorted(numbers)


def after_step(numbers, index, step):
    """Return the ascending list after the step; raise StepFailed(index) if the list is too short."""
    word, number = step
    if word == "insert":
        return sorted([*numbers, number])
    if number > len(numbers):
        raise StepFailed(index)
    return numbers[:number - 1] + numbers[number:]


class Sequence:
    """Steps that are performed from left to right; it never changes."""

    def __init__(self, *steps):
        for step in steps:
            if not self.is_step(step):
                raise InvalidStep(step)
        self._steps = steps

    @staticmethod
    def is_step(value):
        """Return whether the value is ("insert", integer) or ("remove", rank)."""
        if type(value) != tuple or len(value) != 2:
            return False
        word, number = value
        # The word can be any object, whose own comparison must not be asked.
        if type(word) != str:
            return False
        if word == "insert":
            return is_integer(number)
        return word == "remove" and is_rank(number)

    @property
    def steps(self):
        """The tuple of the steps."""
        return self._steps

    def __len__(self):
        return len(self._steps)

    def __eq__(self, other):
        return isinstance(other, Sequence) and self._steps == other._steps

    def __add__(self, other):
        """The sequence of the steps of both."""
        steps = self._steps + other._steps
        return Sequence(*steps)

    def __mul__(self, other):
        """The sequence repeated as many times as the other operand, a count, tells."""
        # Python refuses to repeat even an empty tuple 10 ** 30 times.
        if not self._steps:
            return Sequence()
        steps = self._steps * other
        return Sequence(*steps)

    def __call__(self, numbers):
        """Return the list after the sequence, in ascending order."""
        current = ascending(numbers)
        for index, step in enumerate(self._steps):
            current = after_step(current, index, step)
        return current

    def walk(self, numbers):
        """Yield the list at first and after each step, each time as a new list in ascending order."""
        current = ascending(numbers)
        yield list(current)
        for index, step in enumerate(self._steps):
            current = after_step(current, index, step)
            yield list(current)
