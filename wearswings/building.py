"""Loads that are built for a given count."""

from wearswings.counts import are_left, cycles_outside
from wearswings.errors import NoLoad, TooLarge
from wearswings.kinds import is_range, is_reading
from wearswings.loads import contains, swings

# The greatest number of cycles with which all loads are built.
MOST_CYCLES = 5


def is_rest(value):
    """Returns True if a value of any kind is the rest of some load, otherwise False."""
    return isinstance(value, tuple) and all([is_reading(point) for point in value]) and are_left(value)


def is_count(cycles, rest):
    """Returns True if two values of any kind are the cycles, in any order, and the rest of some load."""
    if not isinstance(cycles, tuple) or not all([is_range(cycle) for cycle in cycles]):
        return False
    return is_rest(rest) and not cycles_outside(cycles, rest)


def load_with(cycles, rest):
    """Returns a tuple of turning points with these cycles and this rest.

    Raises NoLoad(cycle) with the first cycle that is not contained in the range of the rest.
    """
    _refuse_outside(cycles, rest)
    if not cycles:
        return tuple(rest)
    # The swings of a rest grow and then shrink, each within the greater one beside it. So one of
    # them goes from its least point to its greatest one or back, and has room for every cycle.
    place = swings(rest).index((min(rest), max(rest)))
    return _with_cycles(rest, place, cycles)


def loads_with(cycles, rest):
    """Yields all tuples of turning points with these cycles and this rest, in ascending order.

    When the first one is asked for, raises TooLarge(count) if there are more than five cycles, and then
    NoLoad(cycle) as load_with does.
    """
    if len(cycles) > MOST_CYCLES:
        raise TooLarge(len(cycles))
    _refuse_outside(cycles, rest)
    found = [tuple(rest)]
    # A cycle of the least size can be taken out of a load at once, whatever else is in it. So every
    # load comes about by putting the cycles in by size, the greatest first.
    for cycle in _greatest_first(cycles):
        found = _with_one_more(found, cycle)
    yield from sorted(found)


def _refuse_outside(cycles, rest):
    outside = cycles_outside(cycles, rest)
    if outside:
        raise NoLoad(outside[0])


def _greatest_first(cycles):
    sized = sorted([(low - high, low, high) for low, high in cycles])
    return [(low, high) for _, low, high in sized]


def _with_one_more(loads, cycle):
    """Returns the list of all loads, each once, that come about by putting a cycle into one of the loads."""
    found = {}
    for points in loads:
        for place, swing in enumerate(swings(points)):
            if contains(swing, cycle):
                found[_with_cycles(points, place, [cycle])] = True
    return list(found)


def _with_cycles(points, place, cycles):
    """Returns the points with cycles put into the swing that begins at a place and contains them."""
    before, after = points[:place + 1], points[place + 1:]
    if before[-1] < after[0]:
        # On the way up no cycle is lower than the one before it. So the last one can be taken out at
        # any time, then the one before it, and so on; on the way down likewise.
        added = [point for low, high in sorted(cycles) for point in (high, low)]
    else:
        falling = sorted([(high, low) for low, high in cycles], reverse=True)
        added = [point for high, low in falling for point in (low, high)]
    return (*before, *added, *after)
