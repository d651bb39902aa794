"""Counts: the cycles of a load and its rest."""

from wearswings.errors import CannotTake, InvalidText
from wearswings.kinds import is_number
from wearswings.loads import contains, is_left_out, range_of, swings
from wearswings.numerals import reading_of

# What a text says instead of no cycles or no points.
NOTHING = "none"


def removable(points):
    """Returns the ascending tuple of the places at which two of the turning points may be taken out."""
    return tuple([place for place in range(1, len(points) - 2) if _may_be_taken(points, place)])


def take(points, place):
    """Takes two turning points out and returns their cycle and the tuple of the points that are left.

    Raises CannotTake(place) if the place, which may be any value, is not one of the removable ones.
    """
    if not _is_removable(points, place):
        raise CannotTake(place)
    cycle = range_of(points[place], points[place + 1])
    return cycle, tuple(points[:place]) + tuple(points[place + 2:])


def _is_removable(points, value):
    return is_number(value) and 1 <= value < len(points) - 2 and _may_be_taken(points, value)


def _may_be_taken(points, place):
    # The points go up and down by turns. So of two ranges with a point in common the greater one contains the other.
    size = abs(points[place + 1] - points[place])
    return abs(points[place] - points[place - 1]) >= size and abs(points[place + 2] - points[place + 1]) >= size


def put_behind(rest, reading):
    """Puts a reading behind a rest, so that it is that of the longer load, and returns the cycles that this closes."""
    if is_left_out(rest, reading):
        rest.pop()
    rest.append(reading)
    cycles = []
    # Without this point no two could be taken out, so only the last four points are to be looked at.
    while len(rest) > 3 and _may_be_taken(rest, len(rest) - 3):
        cycles.append(range_of(rest[-3], rest[-2]))
        del rest[-3:-1]
    return cycles


def _counted(load):
    """Returns the list of the cycles of a load, in the order they close, and the list of its rest."""
    cycles, rest = [], []
    for reading in load:
        cycles.extend(put_behind(rest, reading))
    return cycles, rest


def are_left(points):
    """Returns True if readings are turning points of which no two can be taken out, otherwise False."""
    # Counting leaves points out exactly if they are no turning points or two can be taken out.
    return _counted(points)[1] == list(points)


def cycles_outside(cycles, rest):
    """Returns the list of the cycles that are not contained in the range of a rest, in their order."""
    if not rest:
        return list(cycles)
    whole = (min(rest), max(rest))
    return [cycle for cycle in cycles if not contains(whole, cycle)]


class Count:
    """The cycles of a load, with their numbers, and its rest."""

    def __init__(self, cycles, rest):
        self._cycles = tuple(sorted(cycles))
        self._rest = tuple(rest)

    @classmethod
    def of(cls, load):
        """Returns the count of a load."""
        cycles, rest = _counted(load)
        return cls(cycles, rest)

    @staticmethod
    def joined(*counts):
        """Returns the count of joined loads, from their counts, in order."""
        cycles, rest = _counted([point for count in counts for point in count.rest])
        closed = [cycle for count in counts for cycle in count.cycles]
        return Count(closed + cycles, rest)

    @classmethod
    def parse(cls, text):
        """Returns the count of a text. Raises InvalidText(row) if the text is not that of a count."""
        rows = text.split("\n")
        cycles = _cycles_in(rows[0])
        if len(rows) < 2:
            raise InvalidText(1)
        points = _points_in(rows[1])
        if len(rows) > 2:
            raise InvalidText(2)
        if not are_left(points):
            raise InvalidText(1)
        if cycles_outside(cycles, points):
            raise InvalidText(0)
        return cls(cycles, points)

    @property
    def cycles(self):
        """The ascending tuple of the cycles."""
        return self._cycles

    @property
    def rest(self):
        """The tuple of the points of the rest."""
        return self._rest

    @property
    def half_cycles(self):
        """The ascending tuple of the half-cycles."""
        return tuple(sorted([*self._cycles, *self._cycles, *swings(self._rest)]))

    def changes(self, low, high):
        """Returns the number of changes of the load for the range (low, high)."""
        return len([outer for outer in self.half_cycles if contains(outer, (low, high))])

    def __eq__(self, other):
        return isinstance(other, Count) and self._cycles == other._cycles and self._rest == other._rest

    def __str__(self):
        return "\n".join([cycles_row(self._cycles), points_row(self._rest)])


def cycles_row(cycles):
    """Returns the text of cycles, in their order."""
    return " ".join([f"{low}:{high}" for low, high in cycles]) if cycles else NOTHING


def points_row(points):
    """Returns the text of points, in their order."""
    return " ".join([str(point) for point in points]) if points else NOTHING


def _cycles_in(row):
    if row == NOTHING:
        return []
    cycles = [_cycle_in(word) for word in row.split(" ")]
    if None in cycles or cycles != sorted(cycles):
        raise InvalidText(0)
    return cycles


def _cycle_in(word):
    """Returns the range of readings that a word writes, or None if it writes none."""
    first, _, second = word.partition(":")
    low, high = reading_of(first), reading_of(second)
    if low is None or high is None or low >= high:
        return None
    return (low, high)


def _points_in(row):
    if row == NOTHING:
        return []
    points = [reading_of(word) for word in row.split(" ")]
    if None in points:
        raise InvalidText(1)
    return points
