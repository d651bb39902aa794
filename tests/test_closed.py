import unittest

from tests.helpers import (
    LIMIT,
    ranges_up_to,
    slow_changes,
    slow_circle,
    slow_closed_outcomes,
    small_loads,
    some_loads,
)
from wearswings.closed import closed_cycles, closed_points, repeated
from wearswings.counts import Count


def numbers_of(halves):
    return {half: halves.count(half) for half in sorted(set(halves))}


def turns(points):
    return [points[k:] + points[:k] for k in range(len(points))]


class ClosedPointsTest(unittest.TestCase):
    def test_edges(self):
        for load, points in [
            ([], ()),
            ([4], ()),
            ([4, 4, 4], ()),
            ([0, 5], (5, 0)),
            ([5, 0], (5, 0)),
            ([0, 5, 0], (5, 0)),
            ([5, 0, 5], (5, 0)),
            ([5, 5, 0, 0, 5], (5, 0)),
            ([2, 5, 3, 4, 0], (5, 3, 4, 0)),
            ([3, 5, 0, 2], (5, 0)),
            ([1, 2, 3, 4], (4, 1)),
            ([4, 3, 2, 1], (4, 1)),
            ([0, 5, 1, 5], (5, 1, 5, 0)),
            ([5, 1, 5, 0], (5, 1, 5, 0)),
            ([5, 0, 5, 1, 5], (5, 0, 5, 1)),
            ([0, 5, 5, 1, 5, 0], (5, 1, 5, 0)),
            ([3, 9, 4, 6, 3], (9, 4, 6, 3)),
            ([-LIMIT, LIMIT, -LIMIT, 0], (LIMIT, -LIMIT, 0, -LIMIT)),
        ]:
            self.assertEqual(closed_points(load), points, load)
            self.assertEqual(closed_points(tuple(load)), points, load)
            self.assertIsInstance(closed_points(load), tuple)

    def test_all_small_loads_keep_the_points_of_the_circle(self):
        for load in small_loads(6, 3):
            points = closed_points(load)
            circle = slow_circle(load)
            if len(circle) < 2:
                self.assertEqual(points, ())
            else:
                self.assertIn(points, turns(circle))
                self.assertEqual(points[0], max(load))

    def test_points_begin_with_the_first_greatest_reading(self):
        for load in small_loads(6, 2):
            points = closed_points(load)
            if points:
                start = load.index(max(load))
                self.assertEqual(points, closed_points(load[start:] + load[:start]))
        self.assertEqual(closed_points([1, 9, 0, 9, 2, 9, 3, 4]), (9, 0, 9, 2, 9, 3, 4, 1))

    def test_two_thousand_readings(self):
        self.assertEqual(closed_points([0, 1] * 1000), (1, 0) * 1000)
        self.assertEqual(closed_points(list(range(2000))), (1999, 0))
        self.assertEqual(closed_points([8] * 2000), ())


class ClosedCyclesTest(unittest.TestCase):
    def test_edges(self):
        for load, cycles in [
            ([], ()),
            ([4], ()),
            ([4, 4, 4], ()),
            ([0, 5], ((0, 5),)),
            ([5, 0, 5], ((0, 5),)),
            ([0, 5, 0], ((0, 5),)),
            ([0, 5, 0, 5], ((0, 5), (0, 5))),
            ([0, 5, 0, 5, 0], ((0, 5), (0, 5))),
            ([2, 5, 3, 4, 0], ((0, 5), (3, 4))),
            ([0, 5, 1, 4], ((0, 5), (1, 4))),
            ([1, 2, 3, 4], ((1, 4),)),
            ([-LIMIT, LIMIT], ((-LIMIT, LIMIT),)),
        ]:
            self.assertEqual(closed_cycles(load), cycles, load)
            self.assertEqual(closed_cycles(tuple(load)), cycles, load)
            self.assertIsInstance(closed_cycles(load), tuple)

    def test_all_orders_of_taking_out_give_the_closed_cycles(self):
        for load in [*small_loads(6, 3), *some_loads(40, 14, 5)]:
            self.assertEqual(slow_closed_outcomes(slow_circle(load)), {closed_cycles(load)}, load)

    def test_closed_cycles_do_not_depend_on_where_the_load_begins(self):
        for load in some_loads(30, 30, 9):
            self.assertEqual(len({closed_cycles(turn) for turn in turns(load)} | {closed_cycles(load)}), 1)

    def test_two_thousand_readings(self):
        self.assertEqual(closed_cycles([0, 1] * 1000), ((0, 1),) * 1000)
        load = [k if k % 2 else -k for k in range(2000)]
        self.assertEqual(len(closed_cycles(load)), 1000)


class RepeatedTest(unittest.TestCase):
    def check(self, load, times):
        told = repeated(load, times)
        wanted = numbers_of(Count.of(list(load) * times).half_cycles)
        self.assertEqual(list(told.items()), list(wanted.items()), (load, times))

    def test_edges(self):
        for load in ([], [4], [4, 4]):
            for times in (1, 2, 10 ** 9):
                self.assertEqual(repeated(load, times), {})
        self.assertEqual(repeated([0, 5], 1), {(0, 5): 1})
        self.assertEqual(repeated([0, 5], 3), {(0, 5): 5})
        self.assertEqual(repeated([0, 5, 0], 1), {(0, 5): 2})
        self.assertEqual(repeated([0, 5, 0], 2), {(0, 5): 4})
        self.assertEqual(repeated((2, 5, 3, 4, 0), 1), {(0, 5): 1, (2, 5): 1, (3, 4): 2})
        self.assertEqual(repeated((2, 5, 3, 4, 0), 2), {(0, 5): 3, (2, 5): 1, (3, 4): 4})
        self.assertEqual(repeated([0, 5], 10 ** 9), {(0, 5): 2 * 10 ** 9 - 1})
        self.assertEqual(repeated([-LIMIT, LIMIT], 10 ** 9), {(-LIMIT, LIMIT): 2 * 10 ** 9 - 1})

    def test_ranges_that_only_the_joint_brings_have_no_number_at_one_time(self):
        load = [5, 0, 9, 4]
        self.assertEqual(closed_cycles(load), ((0, 9), (4, 5)))
        self.assertEqual(repeated(load, 1), {(0, 5): 1, (0, 9): 1, (4, 9): 1})
        self.assertEqual(repeated(load, 2), {(0, 5): 1, (0, 9): 3, (4, 5): 2, (4, 9): 1})

    def test_all_small_loads_joined_to_themselves(self):
        for load in small_loads(5, 3):
            for times in range(1, 5):
                self.check(load, times)

    def test_some_loads_joined_to_themselves(self):
        for load in some_loads(40, 40, 12):
            for times in (1, 2, 3, 7, 20):
                self.check(load, times)

    def test_a_billion_times(self):
        for load in some_loads(40, 30, 4):
            told = repeated(load, 10 ** 9)
            self.assertNotIn(0, told.values())
            self.assertEqual(list(told), sorted(told))
            for low, high in ranges_up_to(4):
                twice, thrice = slow_changes(load * 2, low, high), slow_changes(load * 3, low, high)
                number = sum(told[half] for half in told if half[0] <= low and high <= half[1])
                self.assertEqual(number, twice + (10 ** 9 - 2) * (thrice - twice))

    def test_two_thousand_readings(self):
        self.assertEqual(repeated([0, 1] * 1000, 10 ** 9), {(0, 1): 2 * 10 ** 12 - 1})
        self.check([(k * k) % 101 for k in range(2000)], 3)

    def test_arguments_by_name(self):
        self.assertEqual(repeated(times=3, load=[0, 5]), {(0, 5): 5})
        self.assertEqual(closed_points(load=[0, 5]), (5, 0))
        self.assertEqual(closed_cycles(load=[0, 5]), ((0, 5),))


class ValuesTest(unittest.TestCase):
    def test_loads_are_not_changed(self):
        load = [2, 5, 3, 4, 0]
        closed_points(load)
        closed_cycles(load)
        repeated(load, 4)
        self.assertEqual(load, [2, 5, 3, 4, 0])

    def test_returned_dicts_are_new(self):
        told = repeated([0, 5], 3)
        self.assertIsInstance(told, dict)
        told[(0, 5)] = 7
        told[(1, 2)] = 1
        self.assertEqual(repeated([0, 5], 3), {(0, 5): 5})


if __name__ == "__main__":
    unittest.main()
