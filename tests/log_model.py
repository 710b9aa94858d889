"""A plain model of a log: all steps that were ever added, their order, and the actions that are undone."""

import random

from tests.drawing import outcome
from rankeffect.errors import NothingToRedo, NothingToUndo, StepFailed
from rankeffect.sequences import Sequence

USERS = ["ann", "bob", "c", "dorothea", "eve", "fred", "gus", "h"]


class Action:
    def __init__(self, user, kind, steps):
        self.user, self.kind, self.steps = user, kind, steps
        self.undone_at = None  # when it was undone, while it is
        self.lost = False  # whether it can no longer be redone


class Model:
    """Everything is found anew from the list of all actions, whenever it is asked for."""

    def __init__(self):
        self.order = []  # the numbers of all steps that were ever added
        self.added = {}  # what each of them is: (author, step)
        self.actions = []
        self.clock = 0

    def is_shown(self, number):
        adding = [action for action in self.actions if action.kind == "add" and number in action.steps]
        removing = [action for action in self.actions if action.kind == "remove" and number in action.steps]
        return adding[0].undone_at is None and all(action.undone_at is not None for action in removing)

    def shown(self):
        return [number for number in self.order if self.is_shown(number)]

    @property
    def steps(self):
        return tuple(self.added[number][1] for number in self.shown())

    def authors(self):
        return [self.added[number][0] for number in self.shown()]

    def act(self, user, kind, steps):
        for action in self.actions:
            if action.user == user and action.undone_at is not None:
                action.lost = True
        self.actions.append(Action(user, kind, steps))

    def new_step(self, user, step, place):
        number = len(self.added)
        self.added[number] = (user, step)
        self.order.insert(place, number)
        return number

    def insert(self, user, index, step):
        shown = self.shown()
        place = self.order.index(shown[index]) if index < len(shown) else len(self.order)
        self.act(user, "add", [self.new_step(user, step, place)])

    def add(self, user, step):
        self.act(user, "add", [self.new_step(user, step, len(self.order))])

    def attempt(self, user, numbers, *steps):
        result = Sequence(*self.steps, *steps)(numbers)
        self.act(user, "add", [self.new_step(user, step, len(self.order)) for step in steps])
        return result

    def remove(self, user, index):
        self.act(user, "remove", [self.shown()[index]])

    def undo(self, user):
        mine = [action for action in self.actions if action.user == user and action.undone_at is None]
        if not mine:
            raise NothingToUndo(user)
        self.clock += 1
        mine[-1].undone_at = self.clock

    def redo(self, user):
        mine = [action for action in self.actions
                if action.user == user and action.undone_at is not None and not action.lost]
        if not mine:
            raise NothingToRedo(user)
        max(mine, key=lambda action: action.undone_at).undone_at = None


def drawn_step(chance):
    if chance.random() < 0.7:
        return "insert", chance.choice([-5, 0, 2, 2, 7, 10 ** 40])
    return "remove", chance.choice([1, 1, 2, 3, 6])


def drawn_action(chance, users, length):
    """The name of a method of a log, and its arguments, for a sequence that has this length now."""
    user = chance.choice(users)
    kind = chance.choice(["add", "insert", "insert", "attempt", "remove", "remove", "undo", "undo", "undo", "redo",
                          "redo"])
    if length > 25 and kind in ("add", "insert"):
        kind = "remove"
    if kind == "add":
        return kind, (user, drawn_step(chance))
    if kind == "insert":
        return kind, (user, chance.randint(0, length), drawn_step(chance))
    if kind == "attempt":
        numbers = [chance.randint(-6, 9) for _ in range(chance.choice([0, 2, 8]))]
        return kind, (user, numbers, *[drawn_step(chance) for _ in range(chance.randint(0, 3))])
    if kind == "remove":
        return (kind, (user, chance.randrange(length))) if length else ("undo", (user,))
    return kind, (user,)


def done(log, kind, arguments):
    """What the method of a log or a model returns, or the error that it raises, with its field."""
    try:
        return getattr(log, kind)(*arguments)
    except StepFailed as error:
        return StepFailed, error.index
    except (NothingToUndo, NothingToRedo) as error:
        return type(error), error.user


def history(seed, users, many, log, check):
    """Do so many drawn actions to the log and to a new model, and check both after each one."""
    chance = random.Random(seed)
    model = Model()
    for _ in range(many):
        kind, arguments = drawn_action(chance, users, len(model.steps))
        check(model, kind, arguments, done(model, kind, arguments), done(log, kind, arguments))
    return model


def outcomes(sequence):
    return [outcome(sequence, numbers) for numbers in ([], [2], (9, 1, 2), [0] * 8, list(range(-9, 12)))]
