import unittest
from collections import Counter
from itertools import permutations, product
from random import Random
from time import process_time

from tests.helpers import LIMIT, any_values, nested, slow_turning_points, small_loads, some_loads
from tests.range_helpers import (
    drawn_entries,
    drawn_ranges,
    is_list_of_places,
    is_table_of_readings,
    slow_halves,
    slow_matchings,
    slow_wear,
    small_lists,
    small_tables,
    wider_ranges,
)
from wearswings.compare import compared, is_matching, matching, never_more, size_with_more
from wearswings.errors import More
from wearswings.tables import Table

NESTED = [(k, 1000 - k) for k in range(200)]


def chains(number, random):
    """Returns two lists with a matching, in which the first place that fits is often the wrong one.

    In a chain each range of the first list fits into two places that follow each other, and a last one
    into the first place only.
    """
    first, second = [], []
    for chain in range(number):
        start = 10 ** 6 * chain
        length = random.randrange(1, 40)
        first += [(start + 2 * k, start + 2 * k + 1000) for k in range(length)]
        first.append((start - 2, start - 1))
        second += [(start + 2 * k - 2, start + 2 * k + 1000) for k in range(length + 1)]
    return first[:200], second[:200]


class MatchingTest(unittest.TestCase):
    """Point 12, by both functions."""

    def check_less(self, first, second):
        self.assertIs(never_more(first, second), True)
        places = matching(first, second)
        self.assertTrue(is_list_of_places(first, second, places), (first, second, places))
        self.assertIs(is_matching(first, second, places), True)

    def check_more(self, first, second):
        self.assertIs(never_more(first, second), False)
        with self.assertRaises(More) as held:
            matching(first, second)
        table = held.exception.table
        self.assertIsInstance(table, Table)
        self.assertTrue(is_table_of_readings(table))
        self.assertGreater(slow_wear(table.entries, first), slow_wear(table.entries, second))
        self.assertGreater(table.wear(first), table.wear(second))

    def test_empty_lists(self):
        self.check_less([], [])
        self.check_less((), ())
        self.check_less([], [(0, 5)])
        self.check_less((), [(0, 5), (1, 2)])
        self.check_more([(0, 5)], [])
        self.check_more(((0, 5), (0, 5)), ())

    def test_edges(self):
        for first, second in [
            ([(1, 2)], [(0, 3)]),
            ([(0, 3)], [(0, 3)]),
            ([(0, 3), (0, 3)], [(0, 3), (0, 3)]),
            ([(0, 2), (0, 1)], [(0, 1), (0, 2)]),
            ([(0, 1), (2, 3)], [(0, 3), (0, 3)]),
            ([(1, 2), (0, 3)], [(0, 3), (1, 2), (5, 6)]),
            ([(-LIMIT, LIMIT)], [(-LIMIT, LIMIT)]),
            ([(-LIMIT, 0), (0, LIMIT)], [(-LIMIT, LIMIT), (-LIMIT, LIMIT)]),
        ]:
            self.check_less(first, second)
            self.check_less(tuple(first), second)
            self.check_less(first, tuple(second))
        for first, second in [
            ([(0, 2), (1, 3)], [(0, 3), (1, 2)]),
            ([(0, 3)], [(0, 2), (1, 3)]),
            ([(0, 3)], [(1, 2)]),
            ([(0, 1)], [(1, 2)]),
            ([(0, 3), (0, 3)], [(0, 3)]),
            ([(0, 3), (0, 3)], [(0, 3), (0, 2), (1, 3)]),
            ([(-LIMIT, LIMIT)], [(-LIMIT, LIMIT - 1), (-LIMIT + 1, LIMIT)]),
        ]:
            self.check_more(first, second)
            self.check_more(tuple(first), second)
            self.check_more(first, tuple(second))

    def test_all_small_lists(self):
        lists, random = small_lists(3), Random(1)
        for first, second in product(lists, repeat=2):
            drawn = random.sample(second, len(second))
            if slow_matchings(first, second):
                self.check_less(first, drawn)
            else:
                self.check_more(first, drawn)

    def test_all_tables_of_small_lists(self):
        lists = small_lists(3)
        wears = [[slow_wear(entries, ranges) for entries in small_tables()] for ranges in lists]
        for (first, one), (second, other) in product(zip(lists, wears), repeat=2):
            told = all(worn <= allowed for worn, allowed in zip(one, other))
            self.assertIs(never_more(first, second), told)

    def test_drawn_lists(self):
        random = Random(2)
        seen = Counter()
        for _ in range(1500):
            first = drawn_ranges(random, random.randrange(1, 7), 12)
            second = wider_ranges(random, first, random.choice([0, 1, 3]))
            for at in range(len(second)):
                if random.random() < 0.2:
                    second[at] = drawn_ranges(random, 1, 14)[0]
            told = bool(slow_matchings(first, second))
            seen[told] += 1
            if told:
                self.check_less(first, second)
            else:
                self.check_more(first, second)
        self.assertGreater(min(seen[True], seen[False]), 200)

    def test_wear_under_drawn_tables(self):
        random = Random(3)
        for _ in range(300):
            first = drawn_ranges(random, random.randrange(1, 9), 12)
            second = wider_ranges(random, first, 2)[:random.choice([20, 20, 7])]
            less = never_more(first, second)
            for _ in range(10):
                entries = drawn_entries(random, 4, 12)
                if slow_wear(entries, first) > slow_wear(entries, second):
                    self.assertIs(less, False)

    def test_large_lists(self):
        random = Random(4)
        for size in (150, 200):
            first = drawn_ranges(random, size, 1000)
            second = wider_ranges(random, first, 50)
            self.check_less(first, second)
            self.check_more(first, second[1:])
            self.check_more([*first[1:], (0, 2000)], second)
            self.check_more(second, wider_ranges(random, [(low + 1, high - 1) for low, high in second], 0))

    def test_nested_ranges(self):
        random = Random(5)
        for _ in range(5):
            first, second = random.sample(NESTED, 200), random.sample(NESTED, 200)
            begun = process_time()
            self.check_less(first, second)
            self.check_more([(low - 1, high + 1) for low, high in first], second)
            self.check_more([*first[:199], (0, 1000), (0, 1000)], second)
            self.assertLess(process_time() - begun, 3)
        self.check_less(NESTED[1:], NESTED[:199])
        self.check_more(NESTED[:199], NESTED[1:])

    def test_equal_ranges(self):
        equal = [(0, 5)] * 200
        begun = process_time()
        self.check_less(equal, equal)
        self.check_less(equal, [(0, 6)] * 200)
        self.check_more(equal, [(0, 5)] * 199)
        self.check_more(equal, [(0, 5)] * 199 + [(1, 6)])
        self.check_more(equal, [(1, 5)] * 200)
        self.assertLess(process_time() - begun, 3)

    def test_first_choices_that_have_to_be_changed(self):
        random = Random(6)
        for number in range(1, 9):
            first, second = chains(number, random)
            for _ in range(4):
                random.shuffle(first)
                random.shuffle(second)
                begun = process_time()
                self.check_less(first, second)
                self.check_more([*first, first[0]], second)
                self.check_more(first, second[1:])
                self.assertLess(process_time() - begun, 3)
            chained, places = chains(number, random)
            self.check_less(chained, places)
            self.check_less(chained[::-1], places)
            self.check_less(chained, places[::-1])

    def test_one_chain_of_two_hundred(self):
        # The last range fits into the first place only, so each other one has to go on by one place.
        first = [(2 * k, 2 * k + 1000) for k in range(199)] + [(-2, -1)]
        second = [(2 * k - 2, 2 * k + 1000) for k in range(200)]
        for given in (first, first[::-1]):
            for places in (second, second[::-1]):
                self.check_less(given, places)
                self.check_more(given, [*places[:50], (0, 1), *places[51:]])

    def test_two_calls_answer_with_lists_of_their_own(self):
        first, second = [(1, 2)], [(0, 3)]
        places = matching(first, second)
        places.append(7)
        self.assertEqual(matching(first, second), [0])

    def test_arguments_are_not_changed(self):
        first, second, value = [(1, 3), (0, 2)], [(0, 3), (0, 4), (1, 1000)], [1, [0]]
        never_more(first, second)
        matching(first, second)
        is_matching(first, second, value)
        size_with_more(first, second)
        with self.assertRaises(More):
            matching(second, first)
        self.assertEqual((first, second, value), ([(1, 3), (0, 2)], [(0, 3), (0, 4), (1, 1000)], [1, [0]]))

    def test_arguments_by_name(self):
        self.assertIs(never_more(second=[(0, 3)], first=[(1, 2)]), True)
        self.assertEqual(matching(second=[(0, 3)], first=[(1, 2)]), [0])
        self.assertIs(is_matching(value=[0], second=[(0, 3)], first=[(1, 2)]), True)
        self.assertEqual(size_with_more(second=[(0, 3)], first=[(0, 4)]), 4)
        self.assertEqual(compared(second=[0, 5], first=[0, 4]), "less")


class IsMatchingTest(unittest.TestCase):
    def test_matchings(self):
        for first, second, value in [
            ([], [], []),
            ([], [(0, 5)], []),
            ([(1, 2)], [(0, 3), (1, 2)], [0]),
            ([(1, 2)], [(0, 3), (1, 2)], [1]),
            ([(0, 3), (1, 2)], [(1, 2), (0, 3)], [1, 0]),
            ([(0, 3), (0, 3)], [(0, 3), (0, 3)], [0, 1]),
            ([(-LIMIT, LIMIT)], [(0, 1), (-LIMIT, LIMIT)], [1]),
            (NESTED, NESTED, list(range(200))),
        ]:
            self.assertIs(is_matching(first, second, value), True)
            self.assertIs(is_matching(tuple(first), second, value), True)
            self.assertIs(is_matching(first, tuple(second), value), True)

    def test_lists_that_are_no_matching(self):
        first, second = [(1, 2), (0, 3)], [(0, 3), (0, 4), (1, 2)]
        for value in [
            [],
            [0],
            [0, 1, 2],
            [0, 0],
            [1, 1],
            [1, 2],
            [0, 2],
            [0, 3],
            [3, 0],
            [-3, 1],
            [0, -2],
            [-1, -2],
            [0, 10 ** 5000],
            [-10 ** 5000, 0],
            [2, 1, 0],
        ]:
            self.assertIs(is_matching(first, second, value), False)
        for value in [[0, 1], [1, 0], [2, 0], [2, 1]]:
            self.assertIs(is_matching(first, second, value), True)

    def test_lists_of_values_that_are_no_places(self):
        first, second = [(1, 2), (1, 2)], [(0, 3), (0, 3), (0, 3)]
        for value in [
            [True, False],
            [0, True],
            [False, 1],
            [2, True],
            [None, 0],
            [0, None],
            ["0", "1"],
            [[0], [1]],
            [(0,), (1,)],
            [0, [1]],
            [{}, 0],
            [0, {}],
            [0, nested(48)],
            [[0, 1]],
        ]:
            self.assertIs(is_matching(first, second, value), False)

    def test_values_of_every_kind(self):
        values = [*any_values(), (), (0,), (0, 1), {0: 0, 1: 1}, "01", nested(50, (0, 1))]
        for first in ([], [(1, 2)], [(1, 2), (1, 2)]):
            second = [(0, 3), (0, 3), (0, 3)]
            for value in values:
                self.assertIs(is_matching(first, second, value), False)
                self.assertIs(is_matching(first, [], value), False)

    def test_all_small_lists(self):
        ranges = [(0, 1), (0, 2), (1, 2)]
        lists = [list(chosen) for length in range(3) for chosen in product(ranges, repeat=length)]
        values = [list(places) for length in range(4) for places in product(range(-2, 4), repeat=length)]
        for first, second in product(lists, repeat=2):
            told = slow_matchings(first, second)
            for value in values:
                self.assertIs(is_matching(first, second, value), value in told)


class SizeWithMoreTest(unittest.TestCase):
    def test_edges(self):
        for first, second, size in [
            ([], [], None),
            ([], [(0, 5)], None),
            ([(0, 5)], [], 5),
            ([(0, 5)], [(3, 8)], None),
            ([(0, 5)], [(3, 9)], None),
            ([(0, 5)], [(3, 7)], 5),
            ([(0, 2), (1, 3)], [(0, 3), (1, 2)], 2),
            ([(0, 5), (0, 5)], [(0, 5)], 5),
            ([(0, 9), (0, 1)], [(0, 9)], 1),
            ([(0, 1), (0, 9), (0, 4)], [(0, 3), (0, 8), (5, 6)], 9),
            ([(0, 4), (0, 9), (0, 4)], [(0, 3), (0, 9), (5, 6)], 4),
            ([(-LIMIT, LIMIT)], [(-LIMIT, LIMIT - 1)], 2 * LIMIT),
            ([(-LIMIT, LIMIT)], [(-LIMIT, LIMIT)], None),
            ([(0, 5)] * 200, [(7, 12)] * 200, None),
            ([(0, 5)] * 200, [(7, 12)] * 199, 5),
            (NESTED, NESTED[::-1], None),
            ([(low - 1, high) for low, high in NESTED], NESTED, 1001),
        ]:
            self.assertEqual(size_with_more(first, second), size)
            self.assertEqual(size_with_more(tuple(first), second[::-1]), size)
            self.assertEqual(size_with_more(first[::-1], tuple(second)), size)

    def test_all_small_lists_and_drawn_ones(self):
        random = Random(7)
        pairs = list(product(small_lists(3), repeat=2))
        pairs += [[drawn_ranges(random, random.randrange(9), 12) for _ in range(2)] for _ in range(500)]
        for first, second in pairs:
            more = [
                size
                for size in range(-1, 15)
                if sum(h - l >= size for l, h in first) > sum(h - l >= size for l, h in second)
            ]
            self.assertEqual(size_with_more(first, second), max(more, default=None))


class ComparedTest(unittest.TestCase):
    def test_edges(self):
        for first, second, told in [
            ([], [], "alike"),
            ([], [4], "alike"),
            ([4, 4], [7], "alike"),
            ([], [0, 1], "less"),
            ([0, 1], [], "more"),
            ([0, 5], [5, 0], "alike"),
            ([0, 3, 5], [0, 0, 5], "alike"),
            ([0, 5, 0], [0, 5, 0, 1], "less"),
            ([0, 5, 0, 1], [0, 5, 0], "more"),
            ([0, 5], [1, 6], "neither"),
            ([0, 5, 0], [1, 5, 1], "more"),
            ([1, 5, 1], [0, 5, 0], "less"),
            ([0, 9, 3, 4, 0], [0, 4, 3, 9, 0], "alike"),
            ([-LIMIT, LIMIT], [LIMIT, -LIMIT], "alike"),
            ([-LIMIT, LIMIT - 1], [LIMIT, -LIMIT], "less"),
            ([0, 5, 0], [0, 9], "neither"),
        ]:
            self.assertEqual(compared(first, second), told, (first, second))
            self.assertEqual(compared(tuple(first), second), told)
            self.assertEqual(compared(first, tuple(second)), told)

    def test_all_small_loads(self):
        halves = {load: slow_halves(load) for load in small_loads(5, 2)}
        for (first, one), (second, other) in product(halves.items(), repeat=2):
            if one == other:
                told = "alike"
            elif slow_matchings(one, other):
                told = "less"
            elif slow_matchings(other, one):
                told = "more"
            else:
                told = "neither"
            self.assertEqual(compared(first, second), told, (first, second))

    def test_exchanged_loads(self):
        exchanged = {"alike": "alike", "less": "more", "more": "less", "neither": "neither"}
        seen = Counter()
        for first, second in permutations(some_loads(40, 12, 6), 2):
            told = compared(first, second)
            seen[told] += 1
            self.assertEqual(compared(second, first), exchanged[told])
        self.assertEqual(set(seen), set(exchanged))

    def test_loads_of_two_hundred_readings(self):
        random = Random(8)
        begun = process_time()
        load = [random.randrange(1000) for _ in range(200)]
        points = slow_turning_points(load)
        up = 5 if points[0] > points[1] else -5
        wider = [point + (-up if at % 2 else up) for at, point in enumerate(points)]
        self.assertEqual(compared(load, load[::-1]), "alike")
        self.assertEqual(compared(wider, load), "more")
        self.assertEqual(compared(load, wider), "less")
        self.assertEqual(compared([0, 1] * 100, [0, 1] * 100), "alike")
        self.assertEqual(compared([0, 1] * 100, [0, 2] * 100), "less")
        widening = [k if k % 2 else -k for k in range(200)]
        self.assertEqual(compared(widening, [2 * reading for reading in widening]), "less")
        self.assertEqual(compared([reading + 1 for reading in widening], widening), "neither")
        self.assertLess(process_time() - begun, 3)


if __name__ == "__main__":
    unittest.main()
