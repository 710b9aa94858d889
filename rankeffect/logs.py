"""Logs: a sequence of steps that several users edit, each of whom can undo and redo their own actions."""

from rankeffect.checks import is_count, is_name
from rankeffect.effects import Effect
from rankeffect.errors import InvalidName, InvalidNumber, InvalidStep, NothingToRedo, NothingToUndo
from rankeffect.sequences import Sequence, ascending


def check_name(user):
    """Raise InvalidName unless the value is a name."""
    if not is_name(user):
        raise InvalidName(user)


class AddedStep:
    """A step that was added to a log; it keeps its place there for good, and is shown if nothing hides it."""

    def __init__(self, author, step):
        self.author = author
        self.step = step
        # What hides it: that its addition is undone, or not done yet, and each removal that is not undone.
        self.hidden = 1


class Action:
    """What a user did at once: the addition of some steps, or the removal of one."""

    def __init__(self, rows, change):
        self.rows = rows
        # By how much doing it changes the number of things that hide each of the steps.
        self.change = change

    def apply(self):
        """Do it, at first or again."""
        for row in self.rows:
            row.hidden = row.hidden + self.change

    def revert(self):
        """Undo it."""
        for row in self.rows:
            row.hidden = row.hidden - self.change


class Log:
    """All steps that were ever added, in an order that never changes, and the actions of each user."""

    def __init__(self):
        self._rows = []
        # Of each user, the actions that are not undone, and those that can be redone, the latest ones last.
        self._done = {}
        self._undone = {}

    def _places(self):
        """Return where, among all steps that were ever added, those of the sequence stand."""
        return [place for place, row in enumerate(self._rows) if row.hidden == 0]

    def _act(self, user, action):
        """Do the new action, after which the user can redo none of the undone ones."""
        action.apply()
        self._done.setdefault(user, []).append(action)
        self._undone[user] = []

    @property
    def sequence(self):
        """The sequence of the steps that nothing hides."""
        steps = [row.step for row in self._rows if row.hidden == 0]
        return Sequence(*steps)

    @property
    def effect(self):
        """The effect of the sequence."""
        return Effect.of(self.sequence)

    def authors(self):
        """Return the list with the user who added it for each step of the sequence."""
        return [row.author for row in self._rows if row.hidden == 0]

    def insert(self, user, index, step):
        """Add the step so that it has this index."""
        check_name(user)
        places = self._places()
        if not is_count(index) or index > len(places):
            raise InvalidNumber(index)
        if not Sequence.is_step(step):
            raise InvalidStep(step)
        place = places[index] if index < len(places) else len(self._rows)
        row = AddedStep(user, step)
        self._rows[place:place] = [row]
        self._act(user, Action([row], -1))

    def add(self, user, step):
        """Add the step at the end."""
        self.insert(user, len(self._places()), step)

    def attempt(self, user, numbers, *steps):
        """Add all these steps at the end, as one action, and return the result of the new sequence on the list."""
        check_name(user)
        current = ascending(numbers)
        longer = self.sequence + Sequence(*steps)
        result = longer(current)
        rows = [AddedStep(user, step) for step in steps]
        self._rows.extend(rows)
        self._act(user, Action(rows, -1))
        return result

    def remove(self, user, index):
        """Remove the step with this index, whoever added it."""
        check_name(user)
        places = self._places()
        if not is_count(index) or index >= len(places):
            raise InvalidNumber(index)
        row = self._rows[places[index]]
        self._act(user, Action([row], 1))

    def undo(self, user):
        """Undo the latest action of the user that is not undone."""
        check_name(user)
        if not self._done.get(user):
            raise NothingToUndo(user)
        action = self._done[user].pop()
        action.revert()
        self._undone[user].append(action)

    def redo(self, user):
        """Redo the action that the user undid last."""
        check_name(user)
        if not self._undone.get(user):
            raise NothingToRedo(user)
        action = self._undone[user].pop()
        action.apply()
        self._done[user].append(action)
