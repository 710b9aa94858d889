"""A console: lines of text that change a log or ask about it."""

from rankeffect.checks import is_count, is_name
from rankeffect.errors import InvalidCommand
from rankeffect.formats import NOTHING, format_numbers, format_sequence, parsed_integer, parsed_numbers, parsed_step
from rankeffect.logs import Log

DONE = "ok"
# Of each command, the kinds of its arguments.
CHANGES = {
    "add": ("user", "step"),
    "insert": ("user", "index", "step"),
    "remove": ("user", "index"),
    "undo": ("user",),
    "redo": ("user",),
    "reset": (),
}
QUESTIONS = {"sequence": (), "authors": (), "need": (), "growth": (), "run": ("numbers",)}


def parsed_argument(kind, text):
    """Return the argument of this kind that is written as the text, or None."""
    if kind == "user":
        return text if is_name(text) else None
    if kind == "step":
        return parsed_step(text)
    if kind == "numbers":
        return parsed_numbers(text)
    number = parsed_integer(text)
    return number if is_count(number) else None


def parsed_command(line):
    """Return the first word of the line and the list of the arguments; raise InvalidCommand if it is no command."""
    if type(line) != str:
        raise InvalidCommand(line)
    word, *texts = line.split(" ")
    kinds = CHANGES.get(word, QUESTIONS.get(word))
    if kinds is None or len(kinds) != len(texts):
        raise InvalidCommand(line)
    values = [parsed_argument(kind, text) for kind, text in zip(kinds, texts)]
    if None in values:
        raise InvalidCommand(line)
    return word, values


def change(log, word, values):
    """Do the command, which has at least a user, to the log."""
    user, *others = values
    if word == "add":
        log.add(user, others[0])
    elif word == "insert":
        log.insert(user, others[0], others[1])
    elif word == "remove":
        log.remove(user, others[0])
    elif word == "undo":
        log.undo(user)
    else:
        log.redo(user)


def answer(log, word, values):
    """Return what the command asks about the log, as a text."""
    if word == "sequence":
        return format_sequence(log.sequence)
    if word == "authors":
        return " ".join(log.authors()) or NOTHING
    if word == "need":
        return str(log.effect.need)
    if word == "growth":
        return str(log.effect.growth)
    sequence = log.sequence
    return format_numbers(sequence(values[0]), ",")


class Console:
    """Executes commands on a log of its own."""

    def __init__(self):
        self._log = Log()

    def run(self, line):
        """Execute the command and return a text."""
        word, values = parsed_command(line)
        if word in QUESTIONS:
            return answer(self._log, word, values)
        if word == "reset":
            self._log = Log()
        else:
            change(self._log, word, values)
        return DONE
