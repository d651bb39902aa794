"""Counters of loads that go on."""

from wearswings.counts import Count, put_behind
from wearswings.ordered import put_in


class Counter:
    """Takes the readings of a load one by one and tells its count so far."""

    def __init__(self):
        # The cycles are in ascending order at any time, so that a count of many of them is told quickly.
        self._cycles = []
        self._rest = []
        self._total = 0

    @property
    def counted(self):
        """The count of the readings so far."""
        return Count(self._cycles, self._rest)

    @property
    def total(self):
        """The number of readings so far."""
        return self._total

    def add(self, *readings):
        """Takes readings, in order, and returns the number of cycles that they closed."""
        before = len(self._cycles)
        for reading in readings:
            self._keep(put_behind(self._rest, reading))
        self._total += len(readings)
        return len(self._cycles) - before

    def preview(self, reading):
        """Returns the ascending tuple of the cycles that a reading would close."""
        return tuple(sorted(put_behind(list(self._rest), reading)))

    def attach(self, other):
        """Takes the readings of another counter, or of this one itself, behind its own."""
        # The count of joined loads is determined by their counts: the points of the rest do for the readings.
        # All is copied first, for the other counter may be this one.
        cycles, points, total = list(other._cycles), list(other._rest), other._total
        self._keep(cycles)
        for point in points:
            self._keep(put_behind(self._rest, point))
        self._total += total

    def fork(self):
        """Returns a counter in the same state that is independent of this one."""
        forked = Counter()
        forked._cycles = list(self._cycles)
        forked._rest = list(self._rest)
        forked._total = self._total
        return forked

    def _keep(self, cycles):
        for cycle in cycles:
            put_in(self._cycles, cycle)
