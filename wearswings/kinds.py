"""Which values are numbers, readings and ranges."""

# The greatest distance of a reading from 0.
LIMIT = 1000000000


def is_number(value):
    """Returns True if a value of any kind is an integer, otherwise False."""
    # True and False equal 1 and 0, but they are no integers here.
    return isinstance(value, int) and not isinstance(value, bool)


def is_reading(value):
    """Returns True if a value of any kind is a reading, otherwise False."""
    return is_number(value) and abs(value) <= LIMIT


def is_range(value):
    """Returns True if a value of any kind is a range of readings, otherwise False."""
    if not isinstance(value, tuple) or len(value) != 2:
        return False
    low, high = value
    return is_reading(low) and is_reading(high) and low < high
