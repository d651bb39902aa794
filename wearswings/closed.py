"""Loads that are repeated, for ever or a number of times."""

from wearswings.counts import Count
from wearswings.loads import turning_points


def closed_points(load):
    """Returns the tuple of the turning points on the circle, from the first greatest reading on."""
    if not load:
        return ()
    start = load.index(max(load))
    # The circle is cut at a greatest reading, which stands at both ends: so each point keeps its neighbours.
    circle = list(load[start:]) + list(load[:start + 1])
    return turning_points(circle)[:-1]


def closed_cycles(load):
    """Returns the ascending tuple of the closed cycles of a load."""
    points = closed_points(load)
    if not points:
        return ()
    # From a greatest point round to itself, the rest is always this point, a least one and this point
    # again: on the circle these are the two points that are left at last.
    opened = Count.of(points + points[:1])
    return tuple(sorted([*opened.cycles, (min(points), max(points))]))


def repeated(load, times):
    """Returns a dict from the half-cycles of a load, joined to itself so many times in all, to their numbers."""
    numbers = {}
    for half in Count.of(load).half_cycles:
        numbers[half] = numbers.get(half, 0) + 1
    # Each further time adds to the changes of every range what one round of the circle has, and the
    # changes of all ranges determine the half-cycles. So it adds each closed cycle, twice.
    added = 2 * (times - 1)
    for cycle in closed_cycles(load):
        numbers[cycle] = numbers.get(cycle, 0) + added
    return {half: numbers[half] for half in sorted(numbers) if numbers[half] > 0}
