"""Checks of plain values, for all modules."""

from poolmaps.errors import InvalidNumber, NothingToUndo

GREATEST = 10 ** 60 - 1


def is_number(value, low, high):
    """Whether the value is an integer from low to high."""
    # True and False are values of int, too, but no integers here.
    return isinstance(value, int) and not isinstance(value, bool) and low <= value <= high


def are_numbers(value, low, high):
    """Whether the value is a tuple of integers from low to high."""
    # The check of is_number once more, for this is asked very often.
    return isinstance(value, tuple) and all([
        isinstance(part, int) and not isinstance(part, bool) and low <= part <= high for part in value
    ])


def is_climbing(parts):
    """Whether each part is greater than the one in front; the parts can be compared."""
    return all([parts[at - 1] < parts[at] for at in range(1, len(parts))])


def are_ascending(value, low, high):
    """Whether the value is an ascending tuple of integers from low to high."""
    return are_numbers(value, low, high) and is_climbing(value)


def are_all_numbers(value, size):
    """Whether the value is a tuple with each integer below size once."""
    return are_numbers(value, 0, size - 1) and sorted(value) == list(range(size))


def is_pair(value):
    """Whether the value is a tuple of two parts."""
    return isinstance(value, tuple) and len(value) == 2


def check_number(value, low, high):
    """Raises InvalidNumber for anything but an integer from low to high."""
    if not is_number(value, low, high):
        raise InvalidNumber(value)


def check_many(many, there):
    """Checks how many of the steps that are there are to be taken back, or done again."""
    check_number(many, 0, GREATEST)
    if many > there:
        raise NothingToUndo(many)
