import unittest
from inspect import signature
from itertools import permutations, product
from random import Random
from time import process_time

from tests.helpers import LIMIT, slow_circle, slow_closed_outcomes, small_loads, some_loads
from tests.range_helpers import drawn_entries, slow_halves, slow_wear, small_tables
from wearswings.errors import TooLarge
from wearswings.orders import best_order, wear_of
from wearswings.tables import Table

EMPTY = Table([])
PLAIN = Table([(0, 3, 1)])
STEPS = Table([(k, k + width, width * width) for k in range(-5, 15) for width in range(1, 15)])


def slow_wear_of(pieces, order, table, closed):
    """Point 16: the pieces joined as one load, and its cycles taken out slowly."""
    load = [reading for place in order for reading in pieces[place]]
    if not closed:
        return slow_wear(table.entries, slow_halves(load))
    (cycles,) = slow_closed_outcomes(slow_circle(load))
    return 2 * slow_wear(table.entries, cycles)


def drawn_pieces(random, number, length, greatest):
    return [[random.randrange(greatest + 1) for _ in range(random.randrange(length + 1))] for _ in range(number)]


class WearOfTest(unittest.TestCase):
    def test_edges(self):
        for pieces, order, table, once, closed in [
            ([], (), PLAIN, 0, 0),
            ([[]], (0,), PLAIN, 0, 0),
            ([[], []], (1, 0), PLAIN, 0, 0),
            ([[4]], (0,), PLAIN, 0, 0),
            ([[0], [3]], (0, 1), PLAIN, 1, 2),
            ([[0], [0]], (0, 1), PLAIN, 0, 0),
            ([[0, 3]], (0,), PLAIN, 1, 2),
            ([[0, 3]], (0,), EMPTY, 0, 0),
            ([[0, 3, 0]], (0,), PLAIN, 2, 2),
            ([[0, 3], [0, 3]], (0, 1), PLAIN, 3, 4),
            ([[0, 3], [3, 0]], (0, 1), PLAIN, 2, 2),
            ([[0, 3], [3, 0]], (1, 0), PLAIN, 2, 2),
            ([[0, 3], [], [0, 3]], (2, 1, 0), PLAIN, 3, 4),
            ([[0, 3], [1, 2], [0, 3]], (0, 1, 2), PLAIN, 3, 4),
            ([[0, 3], [1], [3, 0]], (0, 1, 2), PLAIN, 2, 2),
            ([[0, 5], [2, 9]], (0, 1), STEPS, 81 + 2 * 9, 2 * (81 + 9)),
            ([[0, 5], [2, 9]], (1, 0), STEPS, 49 + 81 + 25, 2 * (81 + 9)),
            ([[-LIMIT, LIMIT]] * 2, (0, 1), Table([(-LIMIT, LIMIT, 10 ** 6)]), 3 * 10 ** 6, 4 * 10 ** 6),
        ]:
            for given in (pieces, tuple(pieces), [tuple(piece) for piece in pieces]):
                self.assertEqual(wear_of(given, order, table), once, (pieces, order))
                self.assertEqual(wear_of(given, order, table, closed=False), once, (pieces, order))
                self.assertEqual(wear_of(given, order, table, closed=True), closed, (pieces, order))

    def test_all_pairs_of_small_pieces(self):
        tables = [Table(entries) for entries in small_tables()]
        loads = list(small_loads(3, 3))
        for at, (first, second) in enumerate(product(loads, repeat=2)):
            table = tables[at % len(tables)]
            for order in ((0, 1), (1, 0)):
                for closed in (False, True):
                    told = slow_wear_of([first, second], order, table, closed)
                    self.assertEqual(wear_of([first, second], order, table, closed=closed), told, (first, second))

    def test_drawn_pieces(self):
        random = Random(1)
        for _ in range(150):
            pieces = drawn_pieces(random, random.randrange(6), 4, 9)
            order = tuple(random.sample(range(len(pieces)), len(pieces)))
            table = Table(drawn_entries(random, 5, 9))
            for closed in (False, True):
                told = slow_wear_of(pieces, order, table, closed)
                self.assertEqual(wear_of(pieces, order, table, closed=closed), told)

    def test_more_than_six_pieces_can_be_joined(self):
        self.assertEqual(wear_of([[0, 3]] * 9, tuple(range(9)), PLAIN), 17)
        self.assertEqual(wear_of([[0, 3]] * 9, tuple(range(9)), PLAIN, closed=True), 18)

    def test_arguments_by_name(self):
        self.assertEqual(wear_of(closed=True, table=PLAIN, order=(1, 0), pieces=[[0, 3], [0, 3]]), 4)
        self.assertEqual(wear_of(table=PLAIN, order=(1, 0), pieces=[[0, 3], [0, 3]]), 3)


class BestOrderTest(unittest.TestCase):
    def check(self, pieces, table, told=wear_of):
        for closed in (False, True):
            orders = list(permutations(range(len(pieces))))
            if told is wear_of:
                wears = {order: wear_of(pieces, order, table, closed=closed) for order in orders}
            else:
                wears = {order: told(pieces, order, table, closed) for order in orders}
            for given in (list(pieces), tuple(pieces)):
                order = best_order(given, table, closed=closed)
                self.assertIsInstance(order, tuple)
                self.assertIn(order, wears)
                self.assertEqual({type(place) for place in order}, {int} if pieces else set())
                self.assertEqual(wears[order], min(wears.values()), (pieces, table.entries, closed))
        self.assertIn(best_order(pieces, table), orders)

    def test_edges(self):
        self.assertEqual([best_order([], PLAIN), best_order((), EMPTY, closed=True)], [(), ()])
        self.assertEqual([best_order([[0, 3]], PLAIN), best_order([[]], PLAIN, closed=True)], [(0,), (0,)])
        self.assertEqual(best_order([[0, 5], [5, 9]], Table([(5, 9, 1)])), (0, 1))
        self.assertEqual(best_order([[5, 9], [0, 5]], Table([(5, 9, 1)])), (1, 0))
        for pieces in [
            [[], []],
            [[4], [4]],
            [[], [0, 3], []],
            [[], [0, 3], [3], [], [0]],
            [[0, 3], [0, 3], [3, 0], [3, 0]],
            [[0, 9, 0], [5], [0, 9], [9, 0]],
            [[]] * 6,
            [[k] for k in (3, 0, 5, 1, 4, 2)],
            [[-LIMIT, LIMIT], [LIMIT], [-LIMIT]],
        ]:
            for table in (EMPTY, PLAIN, STEPS, Table([(-LIMIT, LIMIT, 10 ** 6), (0, LIMIT, 1)])):
                self.check(pieces, table)

    def test_single_readings_are_put_in_order(self):
        table = Table([(k, k + 1, 1) for k in range(6)] + [(0, 2, 5), (1, 3, 5), (2, 4, 5), (3, 5, 5)])
        order = best_order([[3], [0], [5], [1], [4], [2]], table)
        self.assertIn(order, [(1, 3, 5, 0, 4, 2), (2, 4, 0, 5, 3, 1)])

    def test_once_and_for_ever_may_ask_for_different_orders(self):
        pieces, table = [[4, 9], [5, 7, 0], [2, 8, 6]], Table([(2, 7, 3), (6, 8, 2)])
        self.assertEqual(best_order(pieces, table), (2, 1, 0))
        self.assertEqual(best_order(pieces, table, closed=False), (2, 1, 0))
        self.assertIn(best_order(pieces, table, closed=True), [(0, 1, 2), (1, 2, 0), (2, 0, 1)])
        self.check(pieces, table, slow_wear_of)

    def test_all_pairs_of_small_pieces(self):
        tables = [Table(entries) for entries in small_tables()]
        loads = list(small_loads(3, 2))
        for at, pieces in enumerate(product(loads, repeat=2)):
            self.check(pieces, tables[at % len(tables)], slow_wear_of)

    def test_drawn_pieces_by_slow_wears(self):
        random = Random(2)
        for _ in range(60):
            table = Table(drawn_entries(random, random.randrange(7), 7))
            self.check(drawn_pieces(random, random.randrange(5), 3, 7), table, slow_wear_of)

    def test_drawn_pieces(self):
        random = Random(3)
        for number in range(7):
            for _ in range(3 if number > 5 else 12):
                greatest = random.choice([3, 9, 30])
                table = Table(drawn_entries(random, random.randrange(1, 12), greatest))
                self.check(drawn_pieces(random, number, random.choice([2, 5, 12]), greatest), table)

    def test_more_than_six_pieces(self):
        for number in (7, 8, 100):
            for pieces in ([[0, 3]] * number, [[]] * number, tuple([k] for k in range(number))):
                for closed in (False, True):
                    with self.assertRaises(TooLarge) as held:
                        best_order(pieces, PLAIN, closed=closed)
                    self.assertEqual(held.exception.count, number)
        self.assertEqual(sorted(best_order([[0, 3]] * 6, PLAIN)), list(range(6)))

    def test_arguments_by_name(self):
        pieces = [[5, 9], [0, 5]]
        self.assertEqual(best_order(table=Table([(5, 9, 1)]), pieces=pieces), (1, 0))
        self.assertIn(best_order(closed=True, table=PLAIN, pieces=pieces), [(0, 1), (1, 0)])


class FormTest(unittest.TestCase):
    def test_closed_is_passed_by_name(self):
        for function in (wear_of, best_order):
            parameter = signature(function).parameters["closed"]
            self.assertEqual((parameter.kind, parameter.default), (parameter.KEYWORD_ONLY, False))
        with self.assertRaises(TypeError):
            wear_of([[0, 3]], (0,), PLAIN, True)
        with self.assertRaises(TypeError):
            best_order([[0, 3]], PLAIN, True)

    def test_arguments_are_not_changed(self):
        pieces, table = [[0, 3, 1], [2, 2], []], Table([(0, 3, 1)])
        best_order(pieces, table)
        best_order(pieces, table, closed=True)
        wear_of(pieces, (2, 0, 1), table)
        wear_of(pieces, (2, 0, 1), table, closed=True)
        with self.assertRaises(TooLarge):
            best_order(pieces * 3, table)
        self.assertEqual((pieces, table), ([[0, 3, 1], [2, 2], []], Table([(0, 3, 1)])))


class LongPiecesTest(unittest.TestCase):
    def check(self, pieces, table, most):
        random = Random(4)
        for closed in (False, True):
            begun = process_time()
            order = best_order(pieces, table, closed=closed)
            self.assertLess(process_time() - begun, most)
            self.assertEqual(sorted(order), list(range(6)))
            least = wear_of(pieces, order, table, closed=closed)
            for _ in range(12):
                other = tuple(random.sample(range(6), 6))
                self.assertLessEqual(least, wear_of(pieces, other, table, closed=closed))

    def test_six_pieces_of_some_hundred_readings(self):
        random = Random(5)
        for greatest, entries in [(30, 10), (1000, 60), (10 ** 6, 60)]:
            table = Table(drawn_entries(random, entries, greatest))
            pieces = [[random.randrange(greatest) for _ in range(500)] for _ in range(6)]
            self.check(pieces, table, 2)

    def test_six_pieces_without_cycles(self):
        random = Random(6)
        table = Table(drawn_entries(random, 60, 300))
        pieces = [[(k if k % 2 else -k) * scale for k in range(150)] for scale in range(1, 7)]
        self.check(pieces, table, 8)
        self.check([piece[::-1] for piece in pieces], table, 8)


if __name__ == "__main__":
    unittest.main()
