import unittest
from random import Random
from time import process_time

from tests.helpers import LIMIT, slow_count, slow_turning_points, small_loads, some_loads
from wearswings.counters import Counter
from wearswings.counts import Count


def counter_of(load):
    counter = Counter()
    counter.add(*load)
    return counter


def state(counter):
    return (counter.counted.cycles, counter.counted.rest, counter.total)


def slow_state(load):
    """Points 6 and 17: the cycles, the rest and the number of all readings."""
    return (*slow_count(slow_turning_points(load)), len(load))


def slow_closed(load, reading):
    """Point 17: the cycles of the load with the reading, less those of the load."""
    left = list(slow_count(slow_turning_points([*load, reading]))[0])
    for cycle in slow_count(slow_turning_points(load))[0]:
        left.remove(cycle)
    return tuple(left)


def drawn_cuts(random, load):
    """Returns the load in pieces, some of which may have no readings."""
    cuts = sorted(random.randrange(len(load) + 1) for _ in range(random.randrange(6)))
    return [load[start:end] for start, end in zip([0, *cuts], [*cuts, len(load)])]


class CountedTest(unittest.TestCase):
    def test_counter_without_readings(self):
        counter = Counter()
        self.assertEqual(counter.counted, Count.of([]))
        self.assertEqual(state(counter), ((), (), 0))
        self.assertEqual(counter.add(), 0)
        self.assertEqual(state(counter), ((), (), 0))
        self.assertEqual(counter.preview(5), ())

    def test_counts_and_totals_of_all_small_loads_at_any_time(self):
        for load in small_loads(6, 3):
            counter = Counter()
            for place, reading in enumerate(load):
                counter.add(reading)
                if place + 3 > len(load):
                    self.assertEqual(state(counter), slow_state(load[:place + 1]), load)
            self.assertEqual(counter.counted, Count.of(load))

    def test_drawn_loads_at_any_time(self):
        for load in some_loads(60, 60, 9):
            counter = Counter()
            for place, reading in enumerate(load):
                counter.add(reading)
                self.assertEqual(counter.counted, Count.of(load[:place + 1]))
                self.assertEqual(counter.total, place + 1)
                self.assertIsInstance(counter.counted, Count)

    def test_readings_that_are_no_turning_points_count_in_the_total(self):
        self.assertEqual(state(counter_of([4, 4, 4])), ((), (4,), 3))
        self.assertEqual(state(counter_of([1, 2, 3, 3])), ((), (1, 3), 4))
        self.assertEqual(state(counter_of([1, 2, 2, 1, 1])), ((), (1, 2, 1), 5))

    def test_what_was_told_does_not_change(self):
        counter = counter_of([0, 9, 3, 5, 4])
        counted, preview = counter.counted, counter.preview(6)
        cycles, rest, text = counted.cycles, counted.rest, str(counted)
        counter.add(5, 1, 8, 0)
        counter.attach(counter)
        self.assertEqual((counted.cycles, counted.rest, str(counted)), (cycles, rest, text))
        self.assertEqual((cycles, rest, preview), ((), (0, 9, 3, 5, 4), ((4, 5),)))
        self.assertNotEqual(counter.counted, counted)

    def test_two_counters_share_nothing(self):
        one, other = Counter(), Counter()
        one.add(0, 5, 2, 4)
        self.assertEqual(state(other), ((), (), 0))
        other.add(7)
        self.assertEqual([state(one), state(other)], [slow_state([0, 5, 2, 4]), slow_state([7])])


class AddTest(unittest.TestCase):
    def test_number_of_cycles_that_were_closed(self):
        counter = Counter()
        pieces = [(0, 5, 2), (4,), (6,), (), (6,), (7, 7), (0, 7, 0, 7), (-1,), (9, -1, 9)]
        told = [counter.add(*piece) for piece in pieces]
        self.assertEqual(told, [0, 0, 1, 0, 0, 0, 2, 0, 1])
        self.assertEqual(state(counter), slow_state([0, 5, 2, 4, 6, 6, 7, 7, 0, 7, 0, 7, -1, 9, -1, 9]))
        self.assertEqual(type(counter.add(3)), int)

    def test_one_reading_that_closes_many_cycles(self):
        narrowing = [reading for k in range(500) for reading in (k, 1000 - k)]
        counter = counter_of(narrowing)
        self.assertEqual(counter.counted.cycles, ())
        told = tuple((k, 1001 - k) for k in range(1, 500))
        self.assertEqual(counter.preview(0), tuple((k, 1000 - k) for k in range(1, 500)))
        self.assertEqual(counter.preview(1000), told)
        self.assertEqual(counter.add(1000), 499)
        self.assertEqual(state(counter), (told, (0, 1000), 1001))

    def test_readings_may_be_handed_over_in_any_way(self):
        random = Random(1)
        for load in some_loads(100, 40, 7):
            cycles = len(Count.of(load).cycles)
            for _ in range(4):
                counter = Counter()
                closed = [counter.add(*piece) for piece in drawn_cuts(random, load)]
                self.assertEqual((counter.counted, counter.total), (Count.of(load), len(load)))
                self.assertEqual(sum(closed), cycles)

    def test_each_number_is_that_by_which_the_cycles_grow(self):
        random = Random(2)
        for load in some_loads(60, 60, 7):
            counter, begun = Counter(), 0
            for piece in drawn_cuts(random, load):
                closed = counter.add(*piece)
                begun += len(piece)
                cycles = slow_count(slow_turning_points(load[:begun]))[0]
                before = slow_count(slow_turning_points(load[:begun - len(piece)]))[0]
                self.assertEqual(closed, len(cycles) - len(before))

    def test_greatest_readings(self):
        counter = Counter()
        self.assertEqual(counter.add(-LIMIT, LIMIT, -LIMIT, LIMIT), 1)
        self.assertEqual(state(counter), (((-LIMIT, LIMIT),), (-LIMIT, LIMIT), 4))


class PreviewTest(unittest.TestCase):
    def test_edges(self):
        for load, reading, told in [
            ([], 5, ()),
            ([5], 5, ()),
            ([5], 6, ()),
            ([0, 5], 2, ()),
            ([0, 5, 2], 2, ()),
            ([0, 5, 2], 4, ()),
            ([0, 5, 2], 5, ((2, 5),)),
            ([0, 5, 2, 4], 4, ()),
            ([0, 5, 2, 4], 2, ((2, 4),)),
            ([0, 5, 2, 4], 3, ()),
            ([0, 5, 2, 4], 5, ((2, 5),)),
            ([0, 9, 2, 8, 4, 6], 7, ()),
            ([0, 9, 2, 8, 4, 6], 8, ((4, 8),)),
            ([0, 9, 2, 8, 4, 6], 9, ((2, 9), (4, 8))),
            ([0, 9, 2, 8, 4, 6], 3, ((4, 6),)),
            ([0, 9, 2, 8, 4, 6], 2, ((2, 8), (4, 6))),
            ([0, 9, 2, 8, 4, 6], -1, ((2, 8), (4, 6))),
            ([0, 9, 0, 9, 4], 0, ()),
            ([0, 9, 4, 9], 0, ()),
            ([0, 9, 2, 8, 2, 8, 2], 9, ((2, 9),)),
            ([-LIMIT, LIMIT, -LIMIT], LIMIT, ((-LIMIT, LIMIT),)),
        ]:
            self.assertEqual(counter_of(load).preview(reading), told, (load, reading))

    def test_it_tells_what_add_then_closes_and_changes_nothing(self):
        for load in [*small_loads(5, 3), *some_loads(40, 40, 9)]:
            counter = counter_of(load)
            begun = state(counter)
            for reading in range(-1, max(load, default=0) + 2):
                told = counter.preview(reading)
                self.assertIsInstance(told, tuple)
                self.assertEqual(told, slow_closed(load, reading), (load, reading))
                self.assertEqual(state(counter), begun)
                other = counter_of(load)
                self.assertEqual(other.add(reading), len(told))
                self.assertEqual(other.counted.cycles, tuple(sorted([*begun[0], *told])))

    def test_argument_by_name(self):
        self.assertEqual(counter_of([0, 5, 2]).preview(reading=6), ((2, 5),))


class AttachTest(unittest.TestCase):
    def test_readings_of_another_counter_come_behind(self):
        for first, second in [
            ([], []),
            ([], [0, 5, 1, 4]),
            ([0, 5, 1, 4], []),
            ([0, 5], [2, 9]),
            ([2, 9], [0, 5]),
            ([0, 3], [3, 9]),
            ([4], [4]),
            ([0, 9, 1, 8, 2], [9, 0, 9]),
            ([0, 1] * 10, [1, 0] * 10),
        ]:
            counter, other = counter_of(first), counter_of(second)
            self.assertIsNone(counter.attach(other))
            self.assertEqual(state(counter), slow_state([*first, *second]))
            self.assertEqual(state(other), slow_state(second))

    def test_all_small_loads_that_go_on(self):
        loads = list(small_loads(3, 3))
        for first in loads:
            for second in loads:
                counter = counter_of(first)
                counter.attach(counter_of(second))
                self.assertEqual((counter.counted, counter.total), (Count.of(first + second), len(first + second)))
                counter.add(1, 3, 0)
                self.assertEqual(counter.counted, Count.of([*first, *second, 1, 3, 0]))

    def test_the_other_counter_goes_on_by_itself(self):
        counter, other = counter_of([0, 9, 3]), counter_of([5, 4, 8])
        counter.attach(other)
        begun = state(counter)
        other.add(0, 10, 0)
        self.assertEqual(state(counter), begun)
        self.assertEqual(state(other), slow_state([5, 4, 8, 0, 10, 0]))
        begun = state(other)
        counter.add(7, 1)
        self.assertEqual(state(counter), slow_state([0, 9, 3, 5, 4, 8, 7, 1]))
        self.assertEqual(state(other), begun)

    def test_counters_attached_to_themselves(self):
        for load in [*small_loads(5, 3), *some_loads(20, 30, 9)]:
            counter = counter_of(load)
            self.assertIsNone(counter.attach(counter))
            twice = [*load, *load]
            self.assertEqual((counter.counted, counter.total), (Count.of(twice), len(twice)))
            counter.attach(other=counter)
            counter.add(2)
            self.assertEqual((counter.counted, counter.total), (Count.of([*twice, *twice, 2]), 4 * len(load) + 1))

    def test_counters_attached_to_each_other(self):
        one, other = counter_of([0, 5, 2]), counter_of([4, 6])
        one.attach(other)
        other.attach(one)
        one.attach(other)
        self.assertEqual(state(other), slow_state([4, 6, 0, 5, 2, 4, 6]))
        self.assertEqual(state(one), slow_state([0, 5, 2, 4, 6, 4, 6, 0, 5, 2, 4, 6]))

    def test_any_pieces_of_a_load(self):
        random = Random(3)
        for load in some_loads(100, 40, 7):
            counter = Counter()
            for piece in drawn_cuts(random, load):
                if random.random() < 0.5:
                    counter.attach(counter_of(piece))
                else:
                    counter.add(*piece)
            self.assertEqual((counter.counted, counter.total), (Count.of(load), len(load)))


class ForkTest(unittest.TestCase):
    def test_a_fork_is_in_the_same_state_and_independent_both_ways(self):
        for load in [*small_loads(4, 3), *some_loads(20, 30, 9)]:
            counter = counter_of(load)
            forked = counter.fork()
            self.assertIsInstance(forked, Counter)
            self.assertIsNot(forked, counter)
            self.assertEqual(state(forked), slow_state(load))
            counter.add(0, 4, 1)
            self.assertEqual(state(forked), slow_state(load))
            begun = state(counter)
            grown = [*load, 3, 3, 9, 0]
            self.assertEqual(forked.add(3, 3, 9, 0), len(Count.of(grown).cycles) - len(Count.of(load).cycles))
            self.assertEqual(state(counter), begun)
            self.assertEqual(state(forked), slow_state(grown))
            self.assertEqual(begun, slow_state([*load, 0, 4, 1]))

    def test_forks_of_forks(self):
        load, forks = [], [Counter()]
        for reading in (3, 8, 1, 5, 2, 9, 0, 4, 4, 7):
            forks.append(forks[-1].fork())
            forks[-1].add(reading)
            load.append(reading)
        for length, forked in enumerate(forks):
            self.assertEqual(state(forked), slow_state(load[:length]))
        forks[4].attach(forks[3])
        self.assertEqual(state(forks[4]), slow_state([3, 8, 1, 5, 3, 8, 1]))
        for length in (0, 1, 2, 3, 5, 10):
            self.assertEqual(state(forks[length]), slow_state(load[:length]))

    def test_a_counter_attached_to_its_fork(self):
        counter = counter_of([0, 5, 2, 4])
        forked = counter.fork()
        counter.attach(forked)
        forked.attach(counter)
        self.assertEqual(state(counter), slow_state([0, 5, 2, 4] * 2))
        self.assertEqual(state(forked), slow_state([0, 5, 2, 4] * 3))


class LongRunsTest(unittest.TestCase):
    def test_some_ten_thousand_readings_one_by_one(self):
        random = Random(4)
        widening = [k if k % 2 else -k for k in range(10000)]
        for load in [[random.randrange(10 ** 6) for _ in range(10000)], [0, 1] * 5000, widening, widening[::-1]]:
            begun = process_time()
            counter, closed = Counter(), 0
            for reading in load:
                told = counter.preview(reading)
                self.assertEqual(counter.add(reading), len(told))
                closed += len(told)
            whole = Count.of(load)
            self.assertEqual((counter.counted, counter.total, closed), (whole, 10000, len(whole.cycles)))
            counter.attach(counter)
            self.assertEqual((counter.counted, counter.total), (Count.of([*load, *load]), 20000))
            self.assertLess(process_time() - begun, 3)

    def test_counts_told_after_each_of_some_thousand_readings(self):
        random = Random(5)
        load = [random.randrange(10 ** 6) for _ in range(5000)]
        counter = Counter()
        begun = process_time()
        for reading in load:
            counter.add(reading)
            self.assertEqual(counter.counted.rest[-1], reading)
        self.assertLess(process_time() - begun, 5)
        self.assertEqual(counter.counted, Count.of(load))


if __name__ == "__main__":
    unittest.main()
