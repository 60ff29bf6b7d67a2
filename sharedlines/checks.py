"""What layouts and programs ask of the values that they are passed."""

LONGEST_NAME = 8


def is_integer_within(value, low, high):
    """True if a value is an integer from low to high."""
    # True and False are ints in Python, but no integers of this package.
    if not isinstance(value, int) or isinstance(value, bool):
        return False
    return low <= value <= high


def is_name(value):
    """True if a value is a name of a cell."""
    if not isinstance(value, str) or not 1 <= len(value) <= LONGEST_NAME:
        return False
    # Not isalpha and islower: they also accept letters beyond a to z.
    return all(["a" <= letter <= "z" for letter in value])
