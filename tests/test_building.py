import unittest
from inspect import isgeneratorfunction
from itertools import combinations, combinations_with_replacement, permutations, product
from math import comb
from random import Random
from time import process_time

from tests.helpers import (
    LIMIT,
    any_values,
    nested,
    slow_count,
    slow_removable,
    slow_turning_points,
    small_loads,
    some_loads,
)
from wearswings.building import is_count, is_rest, load_with, loads_with
from wearswings.counts import Count
from wearswings.errors import NoLoad, TooLarge

# A rest of six points, in each swing of which there is room for cycles from 40 to 60.
SIX = (30, 70, 20, 80, 10, 90)


def all_turning_points(longest, greatest):
    """Returns all tuples of at most so many turning points from 0 to the greatest one."""
    return [load for load in small_loads(longest, greatest) if slow_turning_points(load) == load]


def loads_by_count(longest, greatest):
    """Returns a dict from the counts of all such tuples to the lists of those that have them."""
    known = {}
    for points in all_turning_points(longest, greatest):
        known.setdefault(slow_count(points), []).append(points)
    return known


class IsRestTest(unittest.TestCase):
    def test_rests(self):
        for value in [
            (),
            (0,),
            (-7,),
            (LIMIT,),
            (-LIMIT,),
            (0, 5),
            (5, 0),
            (-LIMIT, LIMIT),
            (LIMIT, -LIMIT, LIMIT),
            (0, 5, 0),
            (0, 5, 1, 4),
            (1, 4, 0, 5),
            (2, 3, 0, 9, 0, 5, 4),
            SIX,
            SIX[::-1],
        ]:
            self.assertIs(is_rest(value), True, value)

    def test_tuples_that_are_no_rest(self):
        for value in [
            (0, 0),
            (0, 5, 5),
            (0, 3, 5),
            (5, 3, 0),
            (0, 5, 0, 5),
            (0, 7, 3, 4, 1),
            (0, 4, 1, 5),
            (LIMIT + 1,),
            (-LIMIT - 1,),
            (0, LIMIT + 1),
            (-LIMIT - 1, LIMIT),
            (0, 5, -LIMIT - 1),
            (10 ** 5000, 0),
            (0, -10 ** 5000),
        ]:
            self.assertIs(is_rest(value), False, value[:1])

    def test_all_small_tuples(self):
        for value in small_loads(6, 3):
            told = slow_turning_points(value) == value and slow_removable(value) == ()
            self.assertIs(is_rest(value), told, value)
            self.assertIs(is_rest(list(value)), False)

    def test_values_of_every_kind(self):
        for value in [*any_values(), [], [0], [0, 5], [(0, 5)], ((0, 5),), "05", nested(50, (0,))]:
            self.assertIs(is_rest(value), False)

    def test_true_and_false_are_no_readings(self):
        for value in [(True,), (False,), (True, 0), (0, True), (5, False), (False, True), (2, 0, True)]:
            self.assertIs(is_rest(value), False, value)

    def test_many_points(self):
        widening = tuple(k if k % 2 else -k for k in range(2000))
        self.assertIs(is_rest(widening), True)
        self.assertIs(is_rest(widening + widening[-2::-1]), True)
        self.assertIs(is_rest(widening + widening[::-1]), False)
        self.assertIs(is_rest(widening[:-1] + widening[-2::-1]), False)
        self.assertIs(is_rest(widening[:-1] + (1, 0) + widening[-1:]), False)
        self.assertIs(is_rest((0, 1) * 1000), False)

    def test_argument_by_name(self):
        self.assertIs(is_rest(value=(0, 5)), True)


class IsCountTest(unittest.TestCase):
    def test_counts(self):
        for cycles, rest in [
            ((), ()),
            ((), (4,)),
            ((), (0, 5)),
            (((0, 5),), (0, 5)),
            (((0, 5),), (5, 0)),
            (((1, 2), (0, 5), (1, 2)), (0, 5)),
            (((3, 4), (1, 2)), (0, 5)),
            (((0, 9),) * 3, (2, 3, 0, 9, 0, 5, 4)),
            (((-LIMIT, LIMIT),), (-LIMIT, LIMIT)),
            (((40, 60),) * 6, SIX),
        ]:
            self.assertIs(is_count(cycles, rest), True, (cycles, rest))

    def test_cycles_that_are_not_in_the_range_of_the_rest(self):
        for cycles, rest in [
            (((0, 1),), ()),
            (((0, 1),), (0,)),
            (((0, 1),), (1,)),
            (((4, 6),), (0, 5)),
            (((-1, 1),), (0, 5)),
            (((-1, 6),), (0, 5)),
            (((6, 7),), (0, 5)),
            (((1, 2), (0, 6)), (0, 5)),
            (((9, 91),), SIX),
            (((-LIMIT, LIMIT),), (-LIMIT + 1, LIMIT)),
        ]:
            self.assertIs(is_count(cycles, rest), False, (cycles, rest))

    def test_all_small_pairs(self):
        known = loads_by_count(8, 2)
        ranges = list(combinations(range(3), 2))
        rests = list(small_loads(4, 2))
        for number in range(3):
            for cycles in product(ranges, repeat=number):
                for rest in rests:
                    told = (tuple(sorted(cycles)), rest) in known
                    self.assertIs(is_count(cycles, rest), told, (cycles, rest))

    def test_counts_of_loads(self):
        for load in some_loads(40, 60, 30):
            count = Count.of(load)
            self.assertIs(is_count(count.cycles, count.rest), True)
            self.assertIs(is_count(count.cycles[::-1], count.rest), True)
            self.assertIs(is_count(list(count.cycles), count.rest), False)
            self.assertIs(is_count(count.cycles, list(count.rest)), False)

    def test_values_of_every_kind_as_rest(self):
        for value in [*any_values(), [], [0, 5], [0]]:
            self.assertIs(is_count((), value), False)
            self.assertIs(is_count(((0, 1),), value), False)

    def test_values_of_every_kind_as_cycles(self):
        for value in [*any_values(), [], [(0, 5)], ((0, 5), [0, 5]), ((0, 5), (0, 5), None)]:
            self.assertIs(is_count(value, (0, 5)), False)
            self.assertIs(is_count(value, ()), False)

    def test_values_of_every_kind_as_one_cycle(self):
        for value in [*any_values(), [0, 5], (0, 5, 5), (0,), ((0, 5), (0, 5))]:
            self.assertIs(is_count((value,), (0, 5)), False)
            self.assertIs(is_count(((0, 5), value), (0, 5)), False)

    def test_ranges(self):
        rest = (-LIMIT, LIMIT)
        for cycle in [
            (0, 0),
            (5, 0),
            (LIMIT, -LIMIT),
            (LIMIT, LIMIT),
            (-LIMIT - 1, 0),
            (0, LIMIT + 1),
            (-10 ** 5000, 10 ** 5000),
            (False, True),
            (False, 5),
            (0, True),
            (True, 5),
            (-5, False),
        ]:
            self.assertIs(is_count((cycle,), rest), False)
            self.assertIs(is_count(((0, 5), cycle), rest), False)
        self.assertIs(is_count(((0, 5), (-LIMIT, LIMIT), (-5, 0)), rest), True)

    def test_rests_that_are_none(self):
        for rest in [(0, 0), (0, 3, 5), (0, 5, 0, 5), (True, 5), (0, LIMIT + 1)]:
            self.assertIs(is_count((), rest), False)
            self.assertIs(is_count(((1, 2),), rest), False)

    def test_arguments_by_name(self):
        self.assertIs(is_count(rest=(0, 5), cycles=((1, 2),)), True)
        self.assertIs(is_count(rest=((1, 2),), cycles=(0, 5)), False)


class LoadWithTest(unittest.TestCase):
    def check(self, cycles, rest):
        for given in (list(cycles), tuple(cycles)):
            points = load_with(given, rest)
            self.assertIsInstance(points, tuple)
            self.assertEqual(slow_turning_points(points), points)
            self.assertEqual(slow_count(points), (tuple(sorted(cycles)), rest))

    def refuse(self, cycles, rest, first):
        for given in (list(cycles), tuple(cycles)):
            with self.assertRaises(NoLoad) as held:
                load_with(given, rest)
            self.assertEqual(held.exception.cycle, first)

    def test_edges(self):
        for rest in [(), (4,), (0, 5), (5, 0), (0, 5, 0), SIX, SIX[::-1], (-LIMIT, LIMIT)]:
            self.check([], rest)
            self.assertEqual(load_with([], rest), rest)
        for cycles, rest in [
            ([(0, 5)], (0, 5)),
            ([(0, 5)], (5, 0)),
            ([(0, 5)] * 4, (5, 0, 5)),
            ([(0, 5), (1, 2), (0, 5), (1, 2)], (0, 5)),
            ([(10, 90)] * 3, SIX),
            ([(10, 90), (40, 60), (10, 90), (40, 60), (45, 55)], SIX),
            ([(-LIMIT, LIMIT), (-LIMIT, 0), (0, LIMIT)] * 2, (LIMIT, -LIMIT)),
        ]:
            for ordered in permutations(cycles):
                self.check(ordered, rest)

    def test_all_small_counts(self):
        ranges = list(combinations(range(4), 2))
        rests = [rest for rest in all_turning_points(5, 3) if not slow_removable(rest)]
        for rest in rests:
            for number in range(4):
                for cycles in combinations_with_replacement(ranges, number):
                    outside = [c for c in cycles if not rest or c[0] < min(rest) or c[1] > max(rest)]
                    if outside:
                        self.refuse(cycles, rest, outside[0])
                    else:
                        self.check(cycles, rest)

    def test_counts_of_loads_in_any_order(self):
        random = Random(3)
        for load in some_loads(60, 80, 40):
            cycles, rest = slow_count(slow_turning_points(load))
            self.check(random.sample(cycles, len(cycles)), rest)

    def test_many_cycles(self):
        random = Random(4)
        cycles = [tuple(sorted(random.sample(range(1000), 2))) for _ in range(990)]
        for rest in [(0, 1000), (1000, 0), (3, 5, 0, 1000, 1)]:
            begun = process_time()
            points = load_with(cycles, rest)
            self.assertLess(process_time() - begun, 2)
            count = Count.of(points)
            self.assertEqual((count.cycles, count.rest), (tuple(sorted(cycles)), rest))

    def test_first_cycle_that_is_not_in_the_range(self):
        self.refuse([(1, 2), (2, 9)], (0, 3), (2, 9))
        self.refuse([(2, 9), (1, 8), (1, 2)], (0, 3), (2, 9))
        self.refuse([(1, 8), (2, 9)], (0, 3), (1, 8))
        self.refuse([(0, 1)], (), (0, 1))
        self.refuse([(3, 4), (0, 1)], (), (3, 4))
        self.refuse([(3, 4), (0, 1)], (0,), (3, 4))
        self.refuse([(0, 1)], (1,), (0, 1))
        self.refuse([(40, 60), (9, 90), (10, 91)], SIX, (9, 90))
        self.refuse([(10, 90), (10, 91)], SIX, (10, 91))
        self.refuse([(-LIMIT, LIMIT)], (-LIMIT, LIMIT - 1), (-LIMIT, LIMIT))

    def test_arguments_are_not_changed(self):
        cycles = [(3, 4), (1, 2), (0, 5)]
        load_with(cycles, (0, 5))
        list(loads_with(cycles, (0, 5)))
        self.assertEqual(cycles, [(3, 4), (1, 2), (0, 5)])

    def test_arguments_by_name(self):
        self.assertEqual(load_with(rest=(0, 3), cycles=[(1, 2)]), (0, 2, 1, 3))


class LoadsWithTest(unittest.TestCase):
    def refuse(self, error, told, cycles, rest):
        loads = loads_with(cycles, rest)
        with self.assertRaises(error) as held:
            next(loads)
        self.assertEqual(list(vars(held.exception).values()), [told])

    def test_it_is_a_generator_function(self):
        self.assertTrue(isgeneratorfunction(loads_with))

    def test_edges(self):
        for cycles, rest, told in [
            ([], (), [()]),
            ([], (4,), [(4,)]),
            ([], (0, 5), [(0, 5)]),
            ([], SIX, [SIX]),
            ([(0, 5)], (0, 5), [(0, 5, 0, 5)]),
            ([(0, 5)], (5, 0), [(5, 0, 5, 0)]),
            ([(0, 5)] * 5, (0, 5), [(0, 5) * 6]),
            ([(1, 2)], (0, 3), [(0, 2, 1, 3)]),
            ([(1, 2)], (0, 3, 0), [(0, 2, 1, 3, 0), (0, 3, 1, 2, 0)]),
            ([(10, 90)], SIX, [(30, 70, 20, 80, 10, 90, 10, 90)]),
            ([(-LIMIT, LIMIT)], (-LIMIT, LIMIT), [(-LIMIT, LIMIT) * 2]),
        ]:
            self.assertEqual(list(loads_with(cycles, rest)), told)
            self.assertEqual(list(loads_with(tuple(cycles), rest)), told)

    def test_all_small_counts(self):
        random = Random(5)
        tried = 0
        for (cycles, rest), told in loads_by_count(9, 3).items():
            if len(rest) <= 6 and len(cycles) <= 5:
                tried += 1
                drawn = random.sample(cycles, len(cycles))
                found = list(loads_with(drawn, rest))
                self.assertEqual(found, sorted(told), (cycles, rest))
                self.assertEqual({type(points) for points in found}, {tuple})
        self.assertGreater(tried, 500)

    def test_three_cycles_of_more_readings(self):
        # The loads with a count are among the ways to write down its points, in any order.
        cycles, rest = ((1, 4), (2, 5), (3, 4)), (0, 6)
        points = sorted(p for pair in (*cycles, rest) for p in pair)
        told = sorted({
            load for load in set(permutations(points))
            if slow_turning_points(load) == load and slow_count(load) == (cycles, rest)
        })
        for ordered in permutations(cycles):
            self.assertEqual(list(loads_with(ordered, rest)), told)

    def test_five_cycles_that_fit_everywhere(self):
        # Each cycle, put in after those that contain it, fits into each swing, and makes two more of them.
        cycles = [(40 + k, 60 - k) for k in (2, 0, 4, 1, 3)]
        begun = process_time()
        found = list(loads_with(cycles, SIX))
        self.assertLess(process_time() - begun, 3)
        self.assertEqual(len(found), 5 * 7 * 9 * 11 * 13)
        self.assertEqual(found, sorted(set(found)))
        for points in found[::97]:
            self.assertEqual(slow_count(points), (tuple(sorted(cycles)), SIX))

    def test_five_equal_cycles(self):
        # Equal cycles are only told apart by how many of them each swing of the rest has.
        for rest in [SIX[:length] for length in range(2, 7)]:
            found = list(loads_with([(40, 60)] * 5, rest))
            self.assertEqual(len(found), comb(5 + len(rest) - 2, 5))
            self.assertEqual(found, sorted(set(found)))
            for points in found:
                self.assertEqual(slow_count(points), (((40, 60),) * 5, rest))

    def test_too_many_cycles(self):
        self.refuse(TooLarge, 6, [(1, 2)] * 6, (0, 3))
        self.refuse(TooLarge, 7, tuple((1, 2 + k) for k in range(7)), SIX)
        self.refuse(TooLarge, 6, [(1, 2)] * 6, ())
        self.refuse(TooLarge, 6, [(1, 9)] * 6, (0, 3))
        self.refuse(TooLarge, 100, [(1, 2)] * 100, (0, 3))
        self.assertEqual(len(list(loads_with([(1, 2)] * 5, (0, 3)))), 1)

    def test_first_cycle_that_is_not_in_the_range(self):
        self.refuse(NoLoad, (2, 9), [(1, 2), (2, 9)], (0, 3))
        self.refuse(NoLoad, (1, 8), ((1, 2), (1, 8), (0, 9), (1, 2), (-1, 2)), (0, 3))
        self.refuse(NoLoad, (0, 1), [(0, 1)], ())
        self.refuse(NoLoad, (3, 4), [(3, 4), (0, 1)], (4,))
        self.refuse(NoLoad, (9, 90), [(40, 60), (9, 90)], SIX)

    def test_arguments_are_looked_at_when_the_first_one_is_asked_for(self):
        cycles = [(1, 9)] * 6
        loads = loads_with(cycles, (0, 3))
        cycles[:] = [(1, 2)]
        self.assertEqual(next(loads), (0, 2, 1, 3))
        self.assertEqual(list(loads), [])
        cycles = []
        loads = loads_with(cycles, (0, 3))
        cycles.append((2, 9))
        with self.assertRaises(NoLoad) as held:
            next(loads)
        self.assertEqual(held.exception.cycle, (2, 9))

    def test_arguments_by_name(self):
        self.assertEqual(list(loads_with(rest=(0, 3), cycles=[(1, 2)])), [(0, 2, 1, 3)])


if __name__ == "__main__":
    unittest.main()
