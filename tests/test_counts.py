import unittest
from copy import deepcopy
from inspect import getattr_static

from tests.helpers import (
    LIMIT,
    holds,
    nested,
    ranges_up_to,
    slow_changes,
    slow_outcomes,
    slow_removable,
    slow_turning_points,
    small_loads,
    some_loads,
)
from wearswings.counts import Count, removable, take
from wearswings.errors import CannotTake
from wearswings.loads import changes, swings, turning_points


class RemovableTest(unittest.TestCase):
    def test_edges(self):
        for points, places in [
            ((), ()),
            ((3,), ()),
            ((3, 4), ()),
            ((3, 9, 4), ()),
            ((0, 5, 0, 5), (1,)),
            ((0, 5, 1, 4), ()),
            ((1, 4, 0, 5), ()),
            ((0, 4, 1, 5), (1,)),
            ((5, 1, 4, 0), (1,)),
            ((0, 4, 0, 5), (1,)),
            ((0, 5, 1, 5), (1,)),
            ((0, 5, 0, 4), ()),
            ((1, 5, 0, 5), ()),
            ((0, 7, 3, 4, 1), (2,)),
            ((0, 5, 0, 5, 0), (1, 2)),
            ((0, 9, 3, 4, 1, 8, 7, 9), (2, 5)),
            ((-LIMIT, LIMIT, -LIMIT, LIMIT), (1,)),
        ]:
            self.assertEqual(removable(points), places, points)
            self.assertEqual(removable(list(points)), places, points)
            self.assertIsInstance(removable(list(points)), tuple)

    def test_all_small_turning_points(self):
        for load in small_loads(7, 3):
            points = slow_turning_points(load)
            self.assertEqual(removable(points), slow_removable(points))

    def test_two_thousand_points(self):
        self.assertEqual(removable((0, 1) * 1000), tuple(range(1, 1998)))
        self.assertEqual(removable([k if k % 2 else -k for k in range(2000)]), ())


class TakeTest(unittest.TestCase):
    def test_two_points_are_taken_out(self):
        for points, place, told in [
            ((0, 7, 3, 4, 1), 2, ((3, 4), (0, 7, 1))),
            ((0, 5, 0, 5), 1, ((0, 5), (0, 5))),
            ((5, 1, 4, 0), 1, ((1, 4), (5, 0))),
            ((0, 5, 0, 5, 0), 2, ((0, 5), (0, 5, 0))),
            ((-LIMIT, LIMIT, -LIMIT, LIMIT), 1, ((-LIMIT, LIMIT), (-LIMIT, LIMIT))),
        ]:
            for given in (points, list(points)):
                answer = take(given, place)
                self.assertEqual(answer, told)
                self.assertEqual([type(part) for part in (answer, *answer)], [tuple] * 3)

    def test_all_places_of_small_turning_points(self):
        for load in small_loads(6, 3):
            points = slow_turning_points(load)
            places = slow_removable(points)
            for place in range(-len(points) - 2, len(points) + 3):
                if place in places:
                    one, other = points[place:place + 2]
                    told = ((min(one, other), max(one, other)), points[:place] + points[place + 2:])
                    self.assertEqual(take(points, place), told)
                else:
                    with self.assertRaises(CannotTake) as held:
                        take(points, place)
                    self.assertEqual(held.exception.place, place)

    def test_places_of_every_kind(self):
        for points in ((0, 7, 3, 4, 1), [0, 5, 0, 5], (0, 5, 0, 5, 0), (), (1,), (1, 2)):
            for value in [
                True,
                False,
                None,
                "",
                "1",
                "2",
                (),
                (1,),
                (2,),
                [],
                [1],
                {},
                {1: 2},
                {"place": 1},
                nested(50),
                -1,
                -3,
                0,
                7,
                10 ** 9,
                10 ** 5000,
                -10 ** 5000,
            ]:
                with self.assertRaises(CannotTake) as held:
                    take(points, value)
                self.assertIs(held.exception.place, value)

    def test_arguments_by_name(self):
        self.assertEqual(take(place=2, points=(0, 7, 3, 4, 1)), ((3, 4), (0, 7, 1)))
        with self.assertRaises(CannotTake):
            take(points=(0, 7, 3, 4, 1), place=True)

    def test_arguments_are_not_changed(self):
        points, place = [0, 7, 3, 4, 1], [2, [3]]
        take(points, 2)
        removable(points)
        with self.assertRaises(CannotTake):
            take(points, place)
        self.assertEqual((points, place), ([0, 7, 3, 4, 1], [2, [3]]))


class CountTest(unittest.TestCase):
    def test_edges(self):
        for load, cycles, rest in [
            ([], (), ()),
            ([4], (), (4,)),
            ([4, 4, 4], (), (4,)),
            ([4, 4, 7, 7], (), (4, 7)),
            ([7, 5, 4], (), (7, 4)),
            ([0, 5, 0], (), (0, 5, 0)),
            ([0, 5, 0, 5], ((0, 5),), (0, 5)),
            ([0, 5, 0, 5, 0, 5, 0], ((0, 5), (0, 5)), (0, 5, 0)),
            ([0, 7, 3, 4, 1], ((3, 4),), (0, 7, 1)),
            ([2, 3, 1, 5, 0, 5, 2, 4], (), (2, 3, 1, 5, 0, 5, 2, 4)),
            ([2, 3, 1, 5, 0, 5, 0, 4], ((0, 5),), (2, 3, 1, 5, 0, 4)),
            ([4, 5, 3, 9, 0, 9, 0, 9, 1, 2], ((0, 9),), (4, 5, 3, 9, 0, 9, 1, 2)),
            ([2, 3, 0, 9, 0, 5, 4], (), (2, 3, 0, 9, 0, 5, 4)),
            ([-LIMIT, LIMIT, -LIMIT, LIMIT], ((-LIMIT, LIMIT),), (-LIMIT, LIMIT)),
            ([0, 9, 5, 6, 2, 3, 1, 8, 0], ((1, 8), (2, 3), (5, 6)), (0, 9, 0)),
        ]:
            for given in (load, tuple(load)):
                count = Count.of(given)
                self.assertEqual((count.cycles, count.rest), (cycles, rest))
                self.assertEqual([type(part) for part in (count.cycles, count.rest)], [tuple, tuple])

    def test_cycles_are_in_ascending_order_and_nested_ones_keep_their_numbers(self):
        count = Count.of([0, 9, 4, 6, 2, 8, 2, 8, 4, 6, 0])
        self.assertEqual(count.cycles, ((2, 8), (2, 8), (4, 6), (4, 6)))
        self.assertEqual(count.rest, (0, 9, 0))

    def test_all_orders_of_taking_out_give_the_count(self):
        for load in [*small_loads(7, 3), *some_loads(60, 16, 6)]:
            count = Count.of(load)
            outcomes = slow_outcomes(slow_turning_points(load))
            self.assertEqual(outcomes, {(count.cycles, count.rest)}, load)

    def test_taking_out_by_hand_from_any_side_gives_the_count(self):
        chosen = [lambda places: places[0], lambda places: places[-1], lambda places: places[len(places) // 2]]
        for load in some_loads(20, 300, 20):
            for choose in chosen:
                points, cycles = turning_points(load), []
                while removable(points):
                    cycle, points = take(points, choose(removable(points)))
                    cycles.append(cycle)
                count = Count.of(load)
                self.assertEqual((tuple(sorted(cycles)), points), (count.cycles, count.rest))

    def test_nothing_can_be_taken_out_of_a_rest(self):
        for load in some_loads(50, 60, 9):
            self.assertEqual(removable(Count.of(load).rest), ())

    def test_two_thousand_readings(self):
        count = Count.of([0, 1] * 1000)
        self.assertEqual((count.cycles, count.rest), (((0, 1),) * 999, (0, 1)))
        widening = [k if k % 2 else -k for k in range(2000)]
        self.assertEqual((Count.of(widening).cycles, Count.of(widening).rest), ((), tuple(widening)))
        narrowing = widening[::-1]
        self.assertEqual((Count.of(narrowing).cycles, Count.of(narrowing).rest), ((), tuple(narrowing)))
        self.assertEqual(Count.of(list(range(2000))).rest, (0, 1999))
        self.assertEqual(Count.of([7] * 2000), Count.of([7]))

    def test_interface_names_are_of_the_kinds_written(self):
        self.assertIsInstance(getattr_static(Count, "of"), classmethod)
        self.assertIsInstance(getattr_static(Count, "parse"), classmethod)
        self.assertIsInstance(getattr_static(Count, "joined"), staticmethod)
        for name in ("cycles", "rest", "half_cycles"):
            self.assertIsInstance(getattr_static(Count, name), property)
        for name in ("of", "joined", "cycles", "rest", "half_cycles", "changes", "parse", "__str__", "__eq__"):
            self.assertIn(name, vars(Count))
        self.assertEqual(Count.of(load=[1, 2]).rest, (1, 2))
        self.assertEqual(Count.of([0, 5]).changes(high=2, low=1), 1)
        self.assertEqual(Count.parse(text="none\n1 2"), Count.of([1, 2]))


class HalfCyclesTest(unittest.TestCase):
    def test_edges(self):
        for load, halves in [
            ([], ()),
            ([4], ()),
            ([4, 4], ()),
            ([0, 5], ((0, 5),)),
            ([5, 0], ((0, 5),)),
            ([0, 5, 0], ((0, 5), (0, 5))),
            ([0, 5, 0, 5], ((0, 5), (0, 5), (0, 5))),
            ([0, 7, 3, 4, 1], ((0, 7), (1, 7), (3, 4), (3, 4))),
            ([9, 0, 3, 2, 8], ((0, 8), (0, 9), (2, 3), (2, 3))),
        ]:
            self.assertEqual(Count.of(load).half_cycles, halves)
            self.assertIsInstance(Count.of(load).half_cycles, tuple)

    def test_they_are_the_cycles_twice_and_the_swings_of_the_rest(self):
        for load in some_loads(40, 60, 9):
            count = Count.of(load)
            self.assertEqual(count.half_cycles, tuple(sorted([*count.cycles, *count.cycles, *swings(count.rest)])))
            self.assertEqual(len(count.half_cycles), len(swings(load)))


class CountChangesTest(unittest.TestCase):
    def test_changes_are_those_of_the_load_and_the_half_cycles_that_contain_the_range(self):
        for load in [*small_loads(6, 3), *some_loads(20, 40, 3)]:
            count = Count.of(load)
            for low, high in ranges_up_to(3):
                number = slow_changes(load, low, high)
                self.assertEqual(count.changes(low, high), number)
                self.assertEqual(changes(load, low, high), number)
                self.assertEqual(len([half for half in count.half_cycles if holds(half, (low, high))]), number)

    def test_ranges_between_at_and_beyond_the_readings(self):
        count = Count.of([0, 70, 30, 40, 10])
        for low, high, number in [(33, 35, 4), (30, 40, 4), (29, 40, 2), (0, 70, 1), (-1, 70, 0), (0, 71, 0), (5, 6, 1)]:
            self.assertEqual(count.changes(low, high), number)

    def test_counts_without_changes(self):
        for load in ([], [3], [3, 3]):
            self.assertEqual(Count.of(load).changes(2, 4), 0)

    def test_two_thousand_readings(self):
        count = Count.of([-LIMIT, LIMIT] * 1000)
        self.assertEqual(count.changes(-LIMIT, LIMIT), 1999)
        self.assertEqual(count.changes(-LIMIT, LIMIT + 1), 0)


class EqualityTest(unittest.TestCase):
    def test_counts_are_equal_if_cycles_and_rest_are(self):
        self.assertTrue(Count.of([0, 5, 1, 4, 0]) == Count.of((0, 3, 5, 5, 1, 4, 2, 0)))
        self.assertFalse(Count.of([0, 5, 1, 4, 0]) != Count.of((0, 3, 5, 5, 1, 4, 2, 0)))
        self.assertTrue(Count.of([0, 2, 1, 5, 0]) == Count.of([0, 5, 1, 2, 0]))
        self.assertTrue(Count.of([]) == Count.of(()))

    def test_counts_with_other_cycles_or_another_rest_are_not_equal(self):
        counts = [
            Count.of(load)
            for load in (
                [],
                [0],
                [1],
                [0, 5],
                [5, 0],
                [0, 5, 0],
                [5, 0, 5],
                [0, 2, 1, 5],
                [0, 3, 1, 5],
                [0, 2, 1, 2, 1, 5],
                [0, 2, 1, 5, 0],
            )
        ]
        for k, one in enumerate(counts):
            for at, other in enumerate(counts):
                self.assertIs(one == other, k == at)
                self.assertIs(one != other, k != at)

    def test_equal_counts_have_equal_cycles_and_rests(self):
        counts = [Count.of(load) for load in small_loads(4, 2)]
        for one in counts:
            for other in counts:
                self.assertIs(one == other, (one.cycles, one.rest) == (other.cycles, other.rest))

    def test_no_other_value_is_equal_to_a_count(self):
        class Alike:
            cycles = ()
            rest = (0, 5)
            _cycles = ()
            _rest = (0, 5)

            def __eq__(self, other):
                return True

        count = Count.of([0, 5])
        for other in (None, 0, "none\n0 5", (), ((), (0, 5)), [(), (0, 5)], {}, True, Alike()):
            self.assertIs(count == other, False)
            self.assertIs(count != other, True)


class ValuesTest(unittest.TestCase):
    def test_loads_are_not_changed_and_counts_keep_what_they_need(self):
        load = [0, 7, 3, 4, 1]
        count = Count.of(load)
        self.assertEqual(load, [0, 7, 3, 4, 1])
        load[:] = [1, 2]
        self.assertEqual((count.cycles, count.rest), (((3, 4),), (0, 7, 1)))
        self.assertEqual(count.changes(3, 4), 4)

    def test_what_was_returned_can_be_changed(self):
        count = Count.of([0, 7, 3, 4, 1])
        told = deepcopy((count.cycles, count.rest, count.half_cycles, str(count)))
        for value in (count.cycles, count.rest, count.half_cycles):
            list(value).clear()
        halves = count.half_cycles
        halves += ((0, 1),)
        self.assertEqual((count.cycles, count.rest, count.half_cycles, str(count)), told)

    def test_answers_do_not_change_a_count(self):
        count, other = Count.of([0, 7, 3, 4, 1]), Count.of([0, 7, 3, 4, 1])
        count.changes(0, 1)
        Count.joined(count, count, Count.of([5, 9]))
        str(count)
        self.assertEqual(count, other)


if __name__ == "__main__":
    unittest.main()
