"""Checks that a call raises exactly one kind of error, about exactly one object."""

from rankeffect import errors

FIELDS = {
    errors.InvalidList: "value", errors.InvalidStep: "value", errors.InvalidTable: "value",
    errors.InvalidEffect: "value", errors.InvalidNumber: "value", errors.InvalidFacts: "value",
    errors.InvalidName: "value", errors.InvalidCommand: "value", errors.ParseError: "line",
    errors.StepFailed: "index", errors.LimitExceeded: "limit", errors.NothingToUndo: "user",
    errors.NothingToRedo: "user",
}


def check_raises(case, error, field, run, *arguments, **named):
    """The call raises this very error, whose field is this very object (or an equal integer or string)."""
    with case.assertRaises(error) as caught:
        run(*arguments, **named)
    case.assertIs(type(caught.exception), error)
    found = getattr(caught.exception, FIELDS[error])
    if type(field) in (int, str):
        case.assertIs(type(found), type(field))
        case.assertEqual(found, field)
    else:
        case.assertIs(found, field)
