"""Loads: their turning points, their swings and their changes."""


def contains(outer, inner):
    """Returns True if the range outer contains the range inner, otherwise False."""
    return outer[0] <= inner[0] and inner[1] <= outer[1]


def range_of(one, other):
    """Returns the range from the smaller to the greater of two readings."""
    return (min(one, other), max(one, other))


def turning_points(load):
    """Returns the tuple of the turning points of a load."""
    points = []
    for reading in load:
        if is_left_out(points, reading):
            points.pop()
        points.append(reading)
    return tuple(points)


def is_left_out(points, reading):
    """Returns True if the last of some turning points is none any more with a reading behind it."""
    if not points:
        return False
    last = points[-1]
    return last == reading or len(points) > 1 and _lies_between(last, points[-2], reading)


def _lies_between(reading, before, after):
    return before < reading < after or after < reading < before


def swings(load):
    """Returns the list of the swings of a load, in order."""
    points = turning_points(load)
    return [range_of(one, other) for one, other in zip(points, points[1:])]


def changes(load, low, high):
    """Returns the number of changes of a load for the range (low, high)."""
    letters = ["L" if reading <= low else "H" for reading in load if reading <= low or reading >= high]
    return len([one for one, other in zip(letters, letters[1:]) if one != other])
