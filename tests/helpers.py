"""What several tests use: loads to try, and the points of the document word by word, slowly."""

from itertools import combinations, product
from random import Random

LIMIT = 10 ** 9


def small_loads(longest, greatest):
    """Yields all loads of at most so many readings from 0 to the greatest one."""
    for length in range(longest + 1):
        yield from product(range(greatest + 1), repeat=length)


def some_loads(number, length, greatest, seed=1):
    """Returns loads that are the same in each run, of at most this length."""
    random = Random(seed)
    return [
        [random.randrange(greatest + 1) for _ in range(random.randrange(length + 1))]
        for _ in range(number)
    ]


def ranges_up_to(greatest):
    """Returns all ranges from -1 to one beyond the greatest reading."""
    return list(combinations(range(-1, greatest + 2), 2))


def slow_turning_points(load):
    """Point 4: repeated readings once, then those between their neighbours left out, all at once."""
    once = [reading for k, reading in enumerate(load) if k == 0 or load[k - 1] != reading]
    return tuple(
        reading
        for k, reading in enumerate(once)
        if k in (0, len(once) - 1) or not min(once[k - 1], once[k + 1]) < reading < max(once[k - 1], once[k + 1])
    )


def span(*readings):
    return (min(readings), max(readings))


def holds(outer, inner):
    return outer[0] <= inner[0] and inner[1] <= outer[1]


def slow_removable(points):
    """Point 6, for a row of points."""
    return tuple(
        k
        for k in range(1, len(points) - 2)
        if holds(span(*points[k - 1:k + 1]), span(*points[k:k + 2]))
        and holds(span(*points[k + 1:k + 3]), span(*points[k:k + 2]))
    )


def slow_outcomes(points, cycles=(), seen=None):
    """Returns the set of all pairs of cycles and rest that some order of taking out gives."""
    seen = set() if seen is None else seen
    if (points, cycles) in seen:
        return set()
    seen.add((points, cycles))
    places = slow_removable(points)
    if not places:
        return {(cycles, points)}
    found = set()
    for k in places:
        more = tuple(sorted([*cycles, span(*points[k:k + 2])]))
        found |= slow_outcomes(points[:k] + points[k + 2:], more, seen)
    return found


def slow_changes(load, low, high):
    """Point 7: the readings as letters."""
    letters = ""
    for reading in load:
        if reading <= low:
            letters += "L"
        elif reading >= high:
            letters += "H"
    return letters.count("LH") + letters.count("HL")


def slow_circle(load):
    """Point 9: the turning points on the circle, from any one of them on."""
    points = list(load)
    while len(points) > 1:
        for k, reading in enumerate(points):
            before, after = points[k - 1], points[(k + 1) % len(points)]
            if reading == before or min(before, after) < reading < max(before, after):
                del points[k]
                break
        else:
            return tuple(points)
    return tuple(points)


def slow_closed_outcomes(points, cycles=(), seen=None):
    """Returns the set of all tuples of closed cycles that some order of taking out gives."""
    seen = set() if seen is None else seen
    if (points, cycles) in seen:
        return set()
    seen.add((points, cycles))
    if len(points) < 4:
        return {tuple(sorted([*cycles, span(*points)]))} if len(points) == 2 else {cycles}
    found = set()
    for k in range(len(points)):
        a, b, c, d = (points[(k + step) % len(points)] for step in range(4))
        if holds(span(a, b), span(b, c)) and holds(span(c, d), span(b, c)):
            left = tuple(p for at, p in enumerate(points) if at not in ((k + 1) % len(points), (k + 2) % len(points)))
            found |= slow_closed_outcomes(left, tuple(sorted([*cycles, span(b, c)])), seen)
    return found


def slow_count(points):
    """Point 6: the cycles and the rest of turning points, taken out from the front."""
    cycles = []
    while places := slow_removable(points):
        k = places[0]
        cycles.append(span(*points[k:k + 2]))
        points = points[:k] + points[k + 2:]
    return tuple(sorted(cycles)), tuple(points)


def nested(depth, value=2):
    """Returns a value in so many lists."""
    for _ in range(depth):
        value = [value]
    return value


def any_values():
    """Returns values of every kind, none of which is a tuple of integers or a list of places."""
    return [
        True,
        False,
        None,
        0,
        7,
        -3,
        10 ** 5000,
        -10 ** 5000,
        "",
        "none",
        "0 5",
        "\u0665",
        {},
        {0: 5},
        {"rest": (0, 5)},
        nested(50),
        nested(49, (0, 5)),
        [()],
        [[]],
        [{}],
        [None],
        [""],
        ["0"],
        [(0,)],
        [[0]],
        [True],
        [False],
        [{"a": [(1, None)]}],
        ((),),
        ([],),
        ({},),
        (None,),
        (True,),
        (False,),
        ("",),
        ("0",),
        ("0", "5"),
        (0, True),
        (True, 5),
        (0, 5, False),
        (0, None),
        (None, 0),
        (0, (5,)),
        (0, [5]),
        (0, {5: 5}),
        ((0, (5,)),),
        ([0, 5],),
    ]
