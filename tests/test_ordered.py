import unittest
from itertools import combinations_with_replacement
from random import Random

from wearswings.ordered import place_in, put_in


class OrderedTest(unittest.TestCase):
    def test_all_small_rows(self):
        for length in range(7):
            for row in combinations_with_replacement(range(0, 9, 2), length):
                for value in range(-1, 10):
                    self.assertEqual(place_in(row, value), sum(item < value for item in row))

    def test_values_are_put_in_order(self):
        random = Random(1)
        row, told = [], []
        for _ in range(300):
            value = (random.randrange(20), random.randrange(20))
            put_in(row, value)
            told.append(value)
            self.assertEqual(row, sorted(told))


if __name__ == "__main__":
    unittest.main()
