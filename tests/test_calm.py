import unittest
from itertools import product
from random import Random
from time import process_time

from tests.helpers import LIMIT, slow_count, slow_turning_points, small_loads, some_loads
from tests.range_helpers import drawn_entries, slow_halves, slow_matchings, slow_wear
from wearswings.calm import calm, is_within
from wearswings.compare import matching, never_more
from wearswings.counts import Count


def loads_within(load, error):
    """Returns all loads within the tolerance."""
    return list(product(*(range(reading - error, reading + error + 1) for reading in load)))


def moves(load):
    return [(one, other) for one, other in zip(load, load[1:]) if one != other]


def slow_begin(load, error):
    """Point 15: how the calm load begins, with the common values written out."""
    common = set(range(load[0] - error, load[0] + error + 1))
    begun = []
    for reading in load:
        left = common & set(range(reading - error, reading + error + 1))
        if not left:
            return max(common) if reading > max(begun) else min(common)
        common = left
        begun.append(reading)
    return min(common)


def slow_calm(load, error):
    """Point 15: the calm load, with the values within the tolerance written out."""
    calmed = [slow_begin(load, error)] if load else []
    for reading in load[1:]:
        values = range(reading - error, reading + error + 1)
        calmed.append(min(values, key=lambda value: abs(value - calmed[-1])))
    return calmed


class IsWithinTest(unittest.TestCase):
    def test_edges(self):
        for load, other, error, told in [
            ([], [], 0, True),
            ([], [], 5, True),
            ([], [0], 5, False),
            ([0], [], 5, False),
            ([0, 1], [0], 5, False),
            ([0], [0, 1], 5, False),
            ([4], [4], 0, True),
            ([4], [5], 0, False),
            ([4], [3], 0, False),
            ([4], [5], 1, True),
            ([4], [3], 1, True),
            ([4], [6], 1, False),
            ([4], [2], 1, False),
            ([0, 5, 9], [2, 3, 11], 2, True),
            ([0, 5, 9], [2, 3, 12], 2, False),
            ([0, 5, 9], [-3, 5, 9], 2, False),
            ([0, 5, 9], [0, 8, 9], 2, False),
            ([0, 5, 9], [9, 5, 0], 8, False),
            ([0, 5, 9], [9, 5, 0], 9, True),
            ([-LIMIT, LIMIT], [LIMIT, -LIMIT], 2 * LIMIT, True),
            ([-LIMIT, LIMIT], [LIMIT, -LIMIT], 2 * LIMIT - 1, False),
            ([10 ** 50, -10 ** 50], [10 ** 50 + 1, -10 ** 50 - 1], 1, True),
            ([10 ** 50, -10 ** 50], [10 ** 50 + 2, -10 ** 50], 1, False),
            ([10 ** 5000], [-10 ** 5000], 2 * 10 ** 5000, True),
        ]:
            for given in (load, tuple(load)):
                for compared in (other, tuple(other)):
                    self.assertIs(is_within(given, compared, error), told, (load, other, error))

    def test_all_small_loads(self):
        loads = list(small_loads(3, 3))
        for load, other, error in product(loads, loads, range(4)):
            self.assertIs(is_within(load, other, error), other in loads_within(load, error))

    def test_arguments_by_name(self):
        self.assertIs(is_within(error=1, other=[3], load=[4]), True)
        self.assertIs(is_within(error=3, other=[4], load=[1]), True)
        self.assertIs(is_within(error=1, other=[4, 4], load=[4]), False)


class CalmTest(unittest.TestCase):
    def test_edges(self):
        for load, error, told in [
            ([], 0, []),
            ([], 7, []),
            ([4], 0, [4]),
            ([4], 3, [1]),
            ([4, 4], 3, [1, 1]),
            ([4, 5], 0, [4, 5]),
            ([5, 4], 0, [5, 4]),
            ([0, 5], 1, [1, 4]),
            ([5, 0], 1, [4, 1]),
            ([0, 2], 1, [1, 1]),
            ([2, 0], 1, [1, 1]),
            ([0, 3], 1, [1, 2]),
            ([3, 4, 3], 1, [3, 3, 3]),
            ([4, 3, 4, 5], 1, [4, 4, 4, 4]),
            ([4, 3, 5, 5], 2, [3, 3, 3, 3]),
            ([0, 5, 4, 5, 1], 1, [1, 4, 4, 4, 2]),
            ([0, 0, 5, 5, 0, 0], 2, [2, 2, 3, 3, 2, 2]),
            ([5, 5, 5, 0, 0, 5], 2, [3, 3, 3, 2, 2, 3]),
            ([2, 0, 5], 1, [1, 1, 4]),
            ([2, 0, -5], 1, [1, 1, -4]),
            ([0, 1, 5], 1, [1, 1, 4]),
            ([0, 1, -5], 1, [0, 0, -4]),
            ([0, 1, 2, 3, 4, 5, 6], 1, [1, 1, 1, 2, 3, 4, 5]),
            ([0, 1, 2, 3, 2, 1, 0], 1, [1, 1, 1, 2, 2, 2, 1]),
            ([0, 9, 3, 6, 3, 6, 0, 9], 2, [2, 7, 5, 5, 5, 5, 2, 7]),
        ]:
            self.assertEqual(calm(load, error), told, (load, error))
            self.assertEqual(calm(tuple(load), error), told, (load, error))
            self.assertIsInstance(calm(tuple(load), error), list)

    def test_greatest_readings_and_tolerances(self):
        for load, error, told in [
            ([-LIMIT], LIMIT, [-2 * LIMIT]),
            ([LIMIT], LIMIT, [0]),
            ([LIMIT, LIMIT], 5, [LIMIT - 5] * 2),
            ([-LIMIT, LIMIT], LIMIT, [0, 0]),
            ([LIMIT, -LIMIT, LIMIT], LIMIT, [0, 0, 0]),
            ([-LIMIT, LIMIT], LIMIT - 1, [-1, 1]),
            ([LIMIT, -LIMIT], LIMIT - 1, [1, -1]),
            ([-LIMIT, LIMIT, -LIMIT], 0, [-LIMIT, LIMIT, -LIMIT]),
            ([-LIMIT, -LIMIT + 2], 7, [-LIMIT - 5] * 2),
            ([0, 1], LIMIT, [1 - LIMIT] * 2),
        ]:
            self.assertEqual(calm(load, error), told, (load, error))

    def test_tolerance_0_leaves_the_load(self):
        for load in [*small_loads(4, 3), *some_loads(20, 50, 9)]:
            self.assertEqual(calm(load, 0), list(load))

    def test_all_small_loads_begin_and_move_as_the_document_says(self):
        for load in small_loads(6, 4):
            for error in range(3):
                self.assertEqual(calm(load, error), slow_calm(load, error), (load, error))
        for load in some_loads(100, 60, 30):
            for error in (0, 1, 3, 8, 14, 15, 16, 40):
                self.assertEqual(calm(load, error), slow_calm(load, error), (load, error))

    def test_it_is_the_smallest_common_value_if_no_move_is_needed(self):
        for load in small_loads(4, 4):
            for error in range(3):
                still = [other for other in loads_within(load, error) if not moves(other)]
                if load and still:
                    self.assertEqual(calm(load, error), list(min(still)))

    def test_it_begins_with_the_least_first_move(self):
        for load in small_loads(4, 5):
            for error in range(2):
                told = calm(load, error)
                if moves(told):
                    place = next(k for k, value in enumerate(told) if value != told[0])
                    firsts = [
                        abs(other[place] - other[0])
                        for other in loads_within(load, error)
                        if set(other[:place]) == {other[0]} != {other[place]}
                    ]
                    self.assertEqual(abs(told[place] - told[0]), min(firsts), (load, error))

    def test_it_moves_only_when_it_must_and_then_as_short_as_can_be(self):
        for load in some_loads(60, 40, 20):
            for error in (0, 1, 2, 5, 9):
                told = calm(load, error)
                for reading, before, value in zip(load[1:], told, told[1:]):
                    if abs(reading - before) <= error:
                        self.assertEqual(value, before)
                    else:
                        self.assertEqual(abs(reading - value), error)
                        self.assertEqual(abs(reading - before), error + abs(value - before))

    def test_it_is_within_and_never_wears_more_than_any_other_load_within(self):
        for longest, greatest, error in [(4, 4, 1), (3, 5, 2), (5, 3, 1)]:
            for load in small_loads(longest, greatest):
                told = calm(load, error)
                self.assertIs(is_within(load, told, error), True)
                halves = Count.of(told).half_cycles
                for other in {slow_turning_points(one) for one in loads_within(load, error)}:
                    self.assertTrue(never_more(halves, Count.of(other).half_cycles), (load, error, other))

    def test_no_other_load_within_wears_less_by_plain_matchings(self):
        for load in small_loads(3, 4):
            halves = slow_halves(calm(load, 1))
            for other in loads_within(load, 1):
                self.assertTrue(slow_matchings(halves, slow_halves(other)), (load, other))

    def test_long_loads_never_wear_more_than_drawn_ones_within(self):
        random = Random(3)
        for load in some_loads(30, 120, 30, 4):
            error = random.randrange(12)
            told = calm(load, error)
            self.assertTrue(is_within(load, told, error))
            halves = Count.of(told).half_cycles
            for _ in range(10):
                other = [reading + random.randint(-error, error) for reading in load]
                others = Count.of(other).half_cycles
                self.assertEqual(len(matching(halves, others)), len(halves))
                entries = drawn_entries(random, 6, 30)
                self.assertLessEqual(slow_wear(entries, halves), slow_wear(entries, others))

    def test_it_has_no_more_moves_and_half_cycles_than_the_load(self):
        for load in some_loads(40, 60, 9):
            for error in range(6):
                told = calm(load, error)
                cycles, rest = slow_count(slow_turning_points(told))
                begun, left = slow_count(slow_turning_points(load))
                self.assertLessEqual(2 * len(cycles) + len(rest), 2 * len(begun) + len(left))
                self.assertLessEqual(len(moves(told)), len(moves(load)))

    def test_two_thousand_readings(self):
        random = Random(5)
        begun = process_time()
        load = [random.randint(-LIMIT, LIMIT) for _ in range(2000)]
        for error in (0, 1, 10 ** 8, LIMIT):
            told = calm(load, error)
            self.assertTrue(is_within(load, told, error))
            self.assertLessEqual(len(moves(told)), len(moves(load)))
        self.assertLess(process_time() - begun, 1)
        self.assertEqual(calm([7] * 2000, 3), [4] * 2000)
        self.assertEqual(calm([0, 1] * 1000, 1), [0] * 2000)
        self.assertEqual(calm(list(range(2000)), 1), [1, 1, 1, *range(2, 1999)])

    def test_arguments_are_not_changed_and_lists_are_new(self):
        load, other = [0, 5, 4], [0, 5, 4]
        is_within(load, other, 1)
        told = calm(load, 0)
        self.assertIsNot(told, load)
        told.append(7)
        self.assertEqual((load, other, calm(load, 0)), ([0, 5, 4], [0, 5, 4], [0, 5, 4]))

    def test_arguments_by_name(self):
        self.assertEqual(calm(error=1, load=[0, 5]), [1, 4])


if __name__ == "__main__":
    unittest.main()
