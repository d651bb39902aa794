"""The load within a tolerance of another one that never wears more than any other."""


def is_within(load, other, error):
    """Returns True if the other load is within the tolerance error of the load, otherwise False."""
    return len(load) == len(other) and all([abs(one - two) <= error for one, two in zip(load, other)])


def calm(load, error):
    """Returns the list of the readings of the calm load within the tolerance error of a load."""
    if not load:
        return []
    calmed = []
    value = _first_value(load, error)
    for reading in load:
        # The nearest value that is within the error; it is the same one if that is.
        value = max(reading - error, min(value, reading + error))
        calmed.append(value)
    return calmed


def _first_value(load, error):
    """Returns the value with which the calm load begins: the one that makes its first move the least one."""
    low, high = load[0] - error, load[0] + error
    for reading in load:
        if reading - error > high:
            return high
        if reading + error < low:
            return low
        low, high = max(low, reading - error), min(high, reading + error)
    return low
