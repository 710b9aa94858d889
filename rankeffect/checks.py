"""Which objects are integers, counts, ranks, lists of these and names; every function accepts any object."""

# A list that would be longer is refused as a result where the document says so.
MOST_ELEMENTS = 500


def is_integer(value):
    """Return whether the value is an integer."""
    # bool is a class of its own here, so True and False are no integers.
    return type(value) == int


def is_count(value):
    """Return whether the value is a non-negative integer."""
    return is_integer(value) and value >= 0


def is_rank(value):
    """Return whether the value is a positive integer."""
    return is_integer(value) and value > 0


def is_times(value):
    """Return whether the value is a number of repetitions: an integer from 0 to 10 ** 30."""
    return is_count(value) and value <= 10 ** 30


def is_number_list(value):
    """Return whether the value is a list or tuple of integers."""
    return type(value) in (list, tuple) and all([is_integer(number) for number in value])


def is_list_of_lists(value):
    """Return whether the value is a list or tuple of lists or tuples of integers."""
    return type(value) in (list, tuple) and all([is_number_list(numbers) for numbers in value])


def is_count_list(value):
    """Return whether the value is a list or tuple of counts."""
    return is_number_list(value) and all([is_count(number) for number in value])


def is_ascending(value):
    """Return whether the value is a list or tuple of integers, each one greater than the one before."""
    return is_number_list(value) and all([low < high for low, high in zip(value, value[1:])])


def is_rank_list(value):
    """Return whether the value is a list or tuple of ranks, each one greater than the one before."""
    return is_ascending(value) and all([is_rank(number) for number in value])


def is_name(value):
    """Return whether the value is a text of one to eight lowercase letters."""
    return type(value) == str and 1 <= len(value) <= 8 and all(["a" <= sign <= "z" for sign in value])
