"""Checks of values that several modules share."""


def is_within(value, low, high):
    """True if the value is an integer from low to high."""
    return isinstance(value, int) and low <= value <= high


def are_ascending(numbers, low, high):
    """True if the numbers are different integers from low to high, in ascending order."""
    if not all([is_within(number, low, high) for number in numbers]):
        return False
    return all([before < after for before, after in zip(numbers, numbers[1:])])
