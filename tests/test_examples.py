"""The examples of the interface, as they stand in the document."""

import unittest

from wearswings import errors

LOADS = """
>>> from wearswings.loads import changes, swings, turning_points
>>> load = [0, 0, 5, 7, 3, 3, 4, 1]
>>> [turning_points(load), swings(load), changes(load, 3, 4), changes(load, 0, 7)]
[(0, 7, 3, 4, 1), [(0, 7), (3, 7), (3, 4), (1, 4)], 4, 1]
"""

COUNTS = """
>>> from wearswings.counts import Count, removable, take
>>> points = (0, 7, 3, 4, 1)
>>> [removable(points), take(points, 2), str(Count.of(points)), Count.of(points).half_cycles]
[(2,), ((3, 4), (0, 7, 1)), '3:4\\n0 7 1', ((0, 7), (1, 7), (3, 4), (3, 4))]

>>> from wearswings.counts import Count
>>> first, second = Count.of([0, 5]), Count.of([2, 9])
>>> [str(Count.joined(first, second)), str(Count.joined(second, first))]
['2:5\\n0 9', 'none\\n2 9 0 5']

>>> from wearswings.counts import Count
>>> Count.parse('1:2\\n0 1')
raises InvalidText(row=0)
"""

CLOSED = """
>>> from wearswings.closed import closed_cycles, closed_points, repeated
>>> load = [2, 5, 3, 4, 0]
>>> [closed_points(load), closed_cycles(load), repeated([0, 5], 3)]
[(5, 3, 4, 0), ((0, 5), (3, 4)), {(0, 5): 5}]
"""

BUILDING = """
>>> from wearswings.building import is_count, load_with, loads_with
>>> [list(loads_with([(1, 2)], (0, 3))), is_count(((1, 2),), (0, 3, 2)), load_with([], (4,))]
[[(0, 2, 1, 3)], True, (4,)]

>>> from wearswings.building import load_with
>>> load_with([(1, 2), (2, 9)], (0, 3))
raises NoLoad(cycle=(2, 9))
"""

TABLES = """
>>> from wearswings.tables import Table
>>> table = Table.parse('0 2 5\\n1 9 7')
>>> [table.amount(0, 9), table.amount(0, 3), table.amount(1, 3), table.wear([(0, 9), (0, 2)])]
[7, 5, 0, 12]
"""

COMPARE = """
>>> from wearswings.compare import is_matching, never_more, size_with_more
>>> first, second = [(0, 2), (1, 3)], [(0, 3), (1, 2)]
>>> [never_more(first, second), size_with_more(first, second), is_matching([(1, 2)], second, [0])]
[False, 2, True]

>>> from wearswings.compare import compared
>>> [compared([0, 5, 0], [0, 5, 0, 1]), compared([0, 5], [1, 6]), compared([0, 5, 0], [1, 5, 1])]
['less', 'neither', 'more']
"""

FACTORS = """
>>> from wearswings.factors import factor
>>> [factor([(0, 2), (1, 3)], [(0, 3), (1, 2)]), factor([(1, 2)], [(0, 3), (1, 2)]), factor([], [])]
[(2, 1), (1, 2), (0, 1)]
"""

CALM = """
>>> from wearswings.calm import calm
>>> [calm([0, 5, 4, 5, 1], 1), calm([3, 4, 3], 1)]
[[1, 4, 4, 4, 2], [3, 3, 3]]
"""

ORDERS = """
>>> from wearswings.orders import best_order, wear_of
>>> from wearswings.tables import Table
>>> table = Table([(0, 3, 1)])
>>> pieces = [[0, 3], [0, 3]]
>>> [wear_of(pieces, (0, 1), table), wear_of(pieces, (0, 1), table, closed=True), best_order([], table)]
[3, 4, ()]
"""

COUNTERS = """
>>> from wearswings.counters import Counter
>>> counter = Counter()
>>> closed = [counter.add(0, 5, 2), counter.add(4), counter.add(6)]
>>> [closed, counter.preview(0), counter.counted.cycles, counter.total]
[[0, 0, 1], (), ((2, 5),), 5]
"""

CONSOLE = """
>>> from wearswings.console import Console
>>> console = Console()
>>> kept = [console.answer('load a 0 5 0'), console.answer('load b 0 5 0 1')]
>>> [kept, console.answer('compare a b'), console.answer('factor b a'), console.answer('count b')]
[['ok', 'ok'], 'less', '3/2', 'none / 0 5 0 1']
"""


def outcome(rows):
    """Runs the rows and returns what the last one gives, written as the document writes it."""
    names = {}
    for row in rows[:-1]:
        exec(row, names)
    try:
        return repr(eval(rows[-1], names))
    except errors.WearError as error:
        told = ", ".join(f"{name}={value!r}" for name, value in vars(error).items())
        return f"raises {type(error).__name__}({told})"


class ExamplesTest(unittest.TestCase):
    def check(self, text, number):
        examples = text.strip().split("\n\n")
        self.assertEqual(len(examples), number)
        for example in examples:
            *rows, told = example.split("\n")
            self.assertEqual(outcome([row.removeprefix(">>> ") for row in rows]), told)

    def test_loads(self):
        self.check(LOADS, 1)

    def test_counts(self):
        self.check(COUNTS, 3)

    def test_closed(self):
        self.check(CLOSED, 1)

    def test_building(self):
        self.check(BUILDING, 2)

    def test_tables(self):
        self.check(TABLES, 1)

    def test_compare(self):
        self.check(COMPARE, 2)

    def test_factors(self):
        self.check(FACTORS, 1)

    def test_calm(self):
        self.check(CALM, 1)

    def test_orders(self):
        self.check(ORDERS, 1)

    def test_counters(self):
        self.check(COUNTERS, 1)

    def test_console(self):
        self.check(CONSOLE, 1)


if __name__ == "__main__":
    unittest.main()
