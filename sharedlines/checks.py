"""What the package asks of the values that it is passed."""

LONGEST_NAME = 8


def is_integer(value):
    """True if a value is an integer."""
    # True and False are ints in Python, but no integers of this package.
    return isinstance(value, int) and not isinstance(value, bool)


def is_integer_within(value, low, high):
    """True if a value is an integer from low to high."""
    return is_integer(value) and low <= value <= high


def is_one_of(value, choices):
    """True if a value is one of some integers and None."""
    # Only integers and None are looked up: False is 0, and True is 1.
    return (value is None or is_integer(value)) and value in choices


def is_name(value):
    """True if a value is a name of a cell."""
    if not isinstance(value, str) or not 1 <= len(value) <= LONGEST_NAME:
        return False
    # Not isalpha and islower: they also accept letters beyond a to z.
    return all(["a" <= letter <= "z" for letter in value])


def is_pair(value):
    """True if a value is a tuple of two."""
    return isinstance(value, tuple) and len(value) == 2


def is_fraction(value):
    """True if a value is a tuple of two integers."""
    return is_pair(value) and is_integer(value[0]) and is_integer(value[1])


def has_just_keys(value, keys):
    """True if a value is a dict with just some keys, each of which is given once."""
    if not isinstance(value, dict) or len(value) != len(keys):
        return False
    return all([key in value for key in keys])


def is_table(value, states):
    """True if a value is a dict from just some states to integers."""
    return has_just_keys(value, states) and all([is_integer(value[state]) for state in states])
