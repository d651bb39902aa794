import unittest
from fractions import Fraction
from itertools import product
from math import gcd
from random import Random
from time import process_time

from tests.helpers import LIMIT
from tests.range_helpers import (
    drawn_entries,
    drawn_ranges,
    is_list_of_places,
    is_table_of_readings,
    slow_wear,
    small_lists,
    small_tables,
    wider_ranges,
)
from wearswings.compare import is_matching
from wearswings.errors import NoFactor, TooLarge
from wearswings.factors import factor, factor_matching, factor_table
from wearswings.tables import Table

ALL = (factor, factor_matching, factor_table)


class FactorsTest(unittest.TestCase):
    def check_table(self, table):
        self.assertIsInstance(table, Table)
        self.assertTrue(is_table_of_readings(table))

    def check(self, first, second, p, q):
        """Checks the answer, and that both kinds of evidence show that it is the least factor."""
        self.assertEqual(factor(first, second), (p, q), (first, second))
        self.assertIsInstance(factor(first, second), tuple)
        one, other = list(first) * q, list(second) * p
        places = factor_matching(first, second)
        self.assertTrue(is_list_of_places(one, other, places), (first, second, places))
        self.assertIs(is_matching(one, other, places), True)
        table = factor_table(first, second)
        if p == 0:
            self.assertIsNone(table)
        else:
            self.check_table(table)
            worn, allowed = slow_wear(table.entries, first), slow_wear(table.entries, second)
            self.assertEqual(q * worn, p * allowed)
            self.assertGreater(worn, 0)

    def check_none(self, first, second):
        for asked in ALL:
            with self.assertRaises(NoFactor) as held:
                asked(first, second)
            table = held.exception.table
            self.check_table(table)
            self.assertEqual(slow_wear(table.entries, second), 0)
            self.assertGreater(slow_wear(table.entries, first), 0)

    def test_edges(self):
        for first, second, p, q in [
            ([], [], 0, 1),
            ([], [(0, 5)], 0, 1),
            ([], [(0, 5)] * 12, 0, 1),
            ([(0, 5)], [(0, 5)], 1, 1),
            ([(1, 4)], [(0, 5)], 1, 1),
            ([(0, 2), (1, 3)], [(0, 3), (1, 2)], 2, 1),
            ([(1, 2)], [(0, 3), (1, 2)], 1, 2),
            ([(1, 2)] * 2, [(0, 3)] * 3, 2, 3),
            ([(1, 2)] * 4, [(0, 3)] * 6, 2, 3),
            ([(0, 3)] * 3, [(0, 3)] * 2, 3, 2),
            ([(0, 3), (1, 2)], [(0, 3), (1, 2), (1, 2)], 1, 1),
            ([(0, 3), (0, 3), (1, 2)], [(0, 3), (1, 2), (1, 2)], 2, 1),
            ([(0, 1), (2, 3)], [(0, 1), (0, 1), (2, 3), (2, 3), (2, 3)], 1, 2),
            ([(-LIMIT, LIMIT)], [(-LIMIT, LIMIT)] * 5, 1, 5),
            ([(0, 1)] * 12, [(0, 1)], 12, 1),
            ([(0, 1)], [(0, 1)] * 12, 1, 12),
            ([(0, 1)] * 12, [(0, 1)] * 11, 12, 11),
            ([(0, 1)] * 11, [(0, 1)] * 12, 11, 12),
            ([(0, 1)] * 12, [(0, 1)] * 12, 1, 1),
        ]:
            self.check(first, second, p, q)
            self.check(tuple(first), second, p, q)
            self.check(first, tuple(second), p, q)

    def test_no_factor(self):
        for first, second in [
            ([(0, 5)], []),
            ([(0, 5)] * 12, []),
            ([(0, 5)], [(1, 5)]),
            ([(0, 5)], [(0, 4), (1, 5)]),
            ([(1, 2), (0, 5)], [(1, 5), (0, 4)]),
            ([(1, 2)] * 11 + [(0, 5)], [(1, 5)] * 12),
            ([(-LIMIT, LIMIT)], [(-LIMIT + 1, LIMIT)] * 12),
            ([(0, 1), (10, 11)], [(0, 9)] * 12),
        ]:
            self.check_none(first, second)
            self.check_none(tuple(first), second)
            self.check_none(first, tuple(second))

    def test_all_small_lists(self):
        lists = small_lists(3)
        wears = [[slow_wear(entries, ranges) for entries in small_tables()] for ranges in lists]
        for (first, one), (second, other) in product(zip(lists, wears), repeat=2):
            # Each table is a sum of tables with amounts of 0 and 1, as for a matching.
            if any(worn and not allowed for worn, allowed in zip(one, other)):
                self.check_none(first, second)
            else:
                least = max(Fraction(worn, allowed) if allowed else 0 for worn, allowed in zip(one, other))
                self.check(first, second, least.numerator, least.denominator)

    def least(self, first, second):
        """Returns the least factor, or None, found by trying all tables that give an amount of 1."""
        within = [0] * len(first)
        for at, (low, high) in enumerate(first):
            for place, outer in enumerate(second):
                if outer[0] <= low and high <= outer[1]:
                    within[at] |= 1 << place
        if 0 in within:
            return None
        least, unions = Fraction(0), [0]
        for chosen in range(1, 1 << len(first)):
            last = chosen.bit_length() - 1
            unions.append(unions[chosen ^ (1 << last)] | within[last])
            least = max(least, Fraction(chosen.bit_count(), unions[chosen].bit_count()))
        return least

    def test_drawn_lists(self):
        random = Random(1)
        seen = set()
        for _ in range(150):
            first = drawn_ranges(random, random.randrange(1, 8), 12)
            second = wider_ranges(random, first, 3)[:random.randrange(1, 8)]
            second += wider_ranges(random, drawn_ranges(random, random.randrange(6), 12), 3)
            second = second[:12]
            least = self.least(first, second)
            seen.add(least)
            if least is None:
                self.check_none(first, second)
            else:
                self.check(first, second, least.numerator, least.denominator)
        self.assertIn(None, seen)
        self.assertGreater(len(seen), 8)

    def test_drawn_lists_of_twelve(self):
        random = Random(2)
        for _ in range(8):
            first = drawn_ranges(random, 12, 20)
            second = wider_ranges(random, first[:9], 8) + [(-8, 28)] * 3
            least = self.least(first, second)
            self.check(first, second, least.numerator, least.denominator)

    def test_wear_under_drawn_tables(self):
        random = Random(3)
        for _ in range(200):
            first = drawn_ranges(random, random.randrange(1, 12), 12)
            second = [(0, 12), *wider_ranges(random, first, 3)[:random.randrange(12)]]
            p, q = factor(first, second)
            self.assertEqual(gcd(p, q), 1)
            for _ in range(20):
                entries = drawn_entries(random, random.randrange(1, 6), 12)
                self.assertLessEqual(q * slow_wear(entries, first), p * slow_wear(entries, second))

    def test_lists_of_more_than_twelve(self):
        twelve, thirteen, more = [(0, 1)] * 12, [(0, 1)] * 13, [(0, 1)] * 200
        for first, second, count in [
            (thirteen, [], 13),
            ([], thirteen, 13),
            (twelve, thirteen, 13),
            (thirteen, twelve, 13),
            (thirteen, more, 13),
            (more, thirteen, 200),
            ([(5, 6)], more, 200),
            ([(0, 9)] * 13, [(0, 1)], 13),
        ]:
            for asked in ALL:
                for given in ((first, second), (tuple(first), tuple(second))):
                    with self.assertRaises(TooLarge) as held:
                        asked(*given)
                    self.assertEqual(held.exception.count, count)

    def test_time(self):
        random = Random(4)
        nested = [(k, 100 - k) for k in range(12)]
        stairs = [(k, k + 50) for k in range(12)]
        pairs = [(nested, nested[::-1]), (nested[::-1], [(0, 100)]), ([(50, 51)] * 12, nested), (stairs, [(0, 61)])]
        pairs += [([(k + 1, k + 50) for k in range(12)], stairs), ([(20, 30)] * 11 + [(0, 50)], stairs)]
        pairs += [(drawn_ranges(random, 12, 30), drawn_ranges(random, 11, 30) + [(0, 30)]) for _ in range(20)]
        for first, second in pairs:
            for asked in ALL:
                begun = process_time()
                asked(first, second)
                self.assertLess(process_time() - begun, 2)

    def test_arguments_are_not_changed(self):
        first, second = [(1, 3), (0, 2)], [(0, 3), (1, 2)]
        for asked in ALL:
            asked(first, second)
        self.assertEqual((first, second), ([(1, 3), (0, 2)], [(0, 3), (1, 2)]))

    def test_two_calls_answer_with_lists_of_their_own(self):
        places = factor_matching([(1, 2)], [(0, 3)])
        places.append(7)
        self.assertEqual(factor_matching([(1, 2)], [(0, 3)]), [0])

    def test_arguments_by_name(self):
        self.assertEqual(factor(second=[(0, 3), (1, 2)], first=[(1, 2)]), (1, 2))
        self.assertEqual(sorted(factor_matching(second=[(0, 3)], first=[(1, 2)] * 2)), [0, 1])
        self.assertIsNone(factor_table(second=[(0, 3)], first=[]))


if __name__ == "__main__":
    unittest.main()
