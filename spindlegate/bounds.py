"""What is an integer, and whether it lies within bounds."""


def is_whole(value):
    """Return True if the value is an integer; True and False are none."""
    return isinstance(value, int) and not isinstance(value, bool)


def is_at_least(value, low):
    """Return True if the value is an integer that is not below low."""
    return is_whole(value) and value >= low


def is_between(value, low, high):
    """Return True if the value is an integer from low to high."""
    return is_whole(value) and low <= value <= high
