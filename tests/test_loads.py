import unittest
from itertools import combinations

from tests.helpers import LIMIT, ranges_up_to, slow_changes, slow_turning_points, small_loads, some_loads
from wearswings.loads import changes, contains, swings, turning_points


class ContainsTest(unittest.TestCase):
    def test_ranges_inside_at_and_beyond_the_ends(self):
        for inner, answer in [
            ((2, 5), True),
            ((2, 3), True),
            ((4, 5), True),
            ((3, 4), True),
            ((1, 5), False),
            ((2, 6), False),
            ((1, 6), False),
            ((0, 1), False),
            ((6, 7), False),
            ((1, 3), False),
            ((4, 9), False),
        ]:
            self.assertIs(contains((2, 5), inner), answer, inner)

    def test_all_small_ranges(self):
        ranges = list(combinations(range(5), 2))
        for low, high in ranges:
            for inner in ranges:
                answer = all(low <= end <= high for end in inner)
                self.assertIs(contains((low, high), inner), answer)

    def test_arguments_by_name(self):
        self.assertIs(contains(outer=(0, 9), inner=(1, 2)), True)
        self.assertIs(contains(inner=(0, 9), outer=(1, 2)), False)

    def test_greatest_ranges(self):
        self.assertIs(contains((-LIMIT, LIMIT), (-LIMIT, LIMIT)), True)
        self.assertIs(contains((-LIMIT, LIMIT - 1), (-LIMIT, LIMIT)), False)


class TurningPointsTest(unittest.TestCase):
    def test_edges(self):
        for load, points in [
            ([], ()),
            ([4], (4,)),
            ([4, 4, 4], (4,)),
            ([4, 7], (4, 7)),
            ([7, 4], (7, 4)),
            ([4, 4, 7, 7], (4, 7)),
            ([1, 2, 3, 9], (1, 9)),
            ([9, 3, 2, 1], (9, 1)),
            ([1, 2, 2, 3], (1, 3)),
            ([1, 2, 2, 1], (1, 2, 1)),
            ([5, 3, 3, 5, 5], (5, 3, 5)),
            ([0, 5, 0, 5], (0, 5, 0, 5)),
            ([0, 3, 5, 4, 1, 1, 2], (0, 5, 1, 2)),
            ([-LIMIT, 0, LIMIT, 0, -LIMIT], (-LIMIT, LIMIT, -LIMIT)),
        ]:
            self.assertEqual(turning_points(load), points)
            self.assertEqual(turning_points(tuple(load)), points)
            self.assertIsInstance(turning_points(load), tuple)

    def test_all_small_loads(self):
        for load in small_loads(6, 3):
            self.assertEqual(turning_points(load), slow_turning_points(load), load)

    def test_long_loads(self):
        for load in some_loads(30, 2000, 9) + some_loads(5, 9000, 10 ** 6):
            self.assertEqual(turning_points(load), slow_turning_points(load))

    def test_two_thousand_readings(self):
        climb = list(range(2000))
        self.assertEqual(turning_points(climb), (0, 1999))
        self.assertEqual(turning_points([3] * 2000), (3,))
        self.assertEqual(turning_points([0, 1] * 1000), (0, 1) * 1000)

    def test_turning_points_go_up_and_down_by_turns(self):
        for load in some_loads(50, 40, 5):
            points = turning_points(load)
            self.assertEqual(turning_points(points), points)
            for a, b, c in zip(points, points[1:], points[2:]):
                self.assertTrue(b > max(a, c) or b < min(a, c))


class SwingsTest(unittest.TestCase):
    def test_edges(self):
        for load, told in [
            ([], []),
            ([4], []),
            ([4, 4], []),
            ([4, 7], [(4, 7)]),
            ([7, 4], [(4, 7)]),
            ([7, 6, 4, 4, 5], [(4, 7), (4, 5)]),
            ([0, 5, 0], [(0, 5), (0, 5)]),
            ((0, LIMIT, -LIMIT), [(0, LIMIT), (-LIMIT, LIMIT)]),
        ]:
            self.assertEqual(swings(load), told)
            self.assertIsInstance(swings(load), list)

    def test_swings_stand_in_the_order_of_the_load(self):
        self.assertEqual(swings([9, 0, 3, 2, 8]), [(0, 9), (0, 3), (2, 3), (2, 8)])

    def test_each_swing_is_a_pair_of_neighbouring_turning_points(self):
        for load in small_loads(5, 3):
            points = slow_turning_points(load)
            self.assertEqual(swings(load), [(min(a, b), max(a, b)) for a, b in zip(points, points[1:])])


class ChangesTest(unittest.TestCase):
    def test_ranges_between_at_and_beyond_the_readings(self):
        load = [0, 0, 5, 7, 3, 3, 4, 1]
        for low, high, number in [
            (3, 4, 4),
            (0, 7, 1),
            (1, 7, 2),
            (2, 3, 2),
            (3, 5, 2),
            (5, 6, 2),
            (-1, 7, 0),
            (0, 8, 0),
            (-5, -1, 0),
            (8, 9, 0),
            (-5, 20, 0),
            (1, 4, 4 - 2),
        ]:
            self.assertEqual(changes(load, low, high), number, (low, high))

    def test_loads_without_changes(self):
        for load in ([], [4], [4, 4, 4], (4,)):
            for low, high in ranges_up_to(5):
                self.assertEqual(changes(load, low, high), 0)

    def test_all_small_loads(self):
        for load in small_loads(5, 3):
            for low, high in ranges_up_to(3):
                self.assertEqual(changes(load, low, high), slow_changes(load, low, high))

    def test_arguments_by_name_and_greatest_readings(self):
        load = [-LIMIT, LIMIT] * 1000
        self.assertEqual(changes(load=load, low=-LIMIT, high=LIMIT), 1999)
        self.assertEqual(changes(load, high=1, low=0), 1999)
        self.assertEqual(changes(load, -LIMIT - 1, LIMIT), 0)


class ValuesTest(unittest.TestCase):
    def test_loads_are_not_changed(self):
        load = [0, 0, 5, 7, 3, 3, 4, 1]
        kept = list(load)
        turning_points(load)
        swings(load)
        changes(load, 3, 4)
        self.assertEqual(load, kept)

    def test_returned_lists_are_new(self):
        load = [0, 5, 1]
        told = swings(load)
        told.clear()
        self.assertEqual(swings(load), [(0, 5), (1, 5)])


if __name__ == "__main__":
    unittest.main()
