"""What arguments are asked for again and again: whole numbers, indices, ascending tuples."""

from sumsalone.errors import InvalidNumber


def is_whole(value):
    """Whether the value is an integer; True and False are none."""
    return isinstance(value, int) and not isinstance(value, bool)


def is_within(value, least, most):
    """Whether the value is an integer from least to most."""
    return is_whole(value) and least <= value <= most


def is_entry(value):
    """Whether the value is an integer from 0 on, of at most thirty digits."""
    return is_whole(value) and 0 <= value < 10 ** 30


def is_ascending(value, many):
    """Whether the value is an ascending tuple, perhaps empty, of integers from 0 to many - 1."""
    if not isinstance(value, tuple) or not all([is_within(part, 0, many - 1) for part in value]):
        return False
    return all([part < later for part, later in zip(value, value[1:])])


def check_within(value, least, most):
    """Raise the error for what is no integer from least to most."""
    if not is_within(value, least, most):
        raise InvalidNumber(value)


def check_entry(value):
    """Raise the error for what is no integer from 0 on, of at most thirty digits."""
    if not is_entry(value):
        raise InvalidNumber(value)
