import unittest
from itertools import product

from tests.helpers import LIMIT, small_loads, some_loads
from wearswings.counts import Count


def joined_load(pieces):
    return [reading for piece in pieces for reading in piece]


class JoinedTest(unittest.TestCase):
    def check(self, *pieces):
        told = Count.joined(*[Count.of(piece) for piece in pieces])
        whole = Count.of(joined_load(pieces))
        self.assertEqual((told.cycles, told.rest), (whole.cycles, whole.rest), pieces)

    def test_no_counts(self):
        self.assertEqual(Count.joined(), Count.of([]))
        self.assertEqual((Count.joined().cycles, Count.joined().rest), ((), ()))

    def test_one_count(self):
        for load in small_loads(5, 3):
            self.check(load)

    def test_all_pairs_of_small_loads(self):
        loads = list(small_loads(3, 3))
        for first, second in product(loads, repeat=2):
            self.check(first, second)

    def test_order_matters(self):
        first, second = Count.of([0, 5]), Count.of([2, 9])
        self.assertEqual(str(Count.joined(first, second)), "2:5\n0 9")
        self.assertEqual(str(Count.joined(second, first)), "none\n2 9 0 5")

    def test_cycles_of_pieces_and_of_their_rests_come_together_in_ascending_order(self):
        told = Count.joined(Count.of([0, 9, 5, 6, 1]), Count.of([8, 3, 4, 0]))
        self.assertEqual((told.cycles, told.rest), (((1, 8), (3, 4), (5, 6)), (0, 9, 0)))

    def test_joints_that_are_no_turning_points(self):
        self.check([0, 3], [5, 9])
        self.check([9, 5], [3, 0])
        self.check([0, 3], [3, 9])
        self.check([0, 3, 1, 5], [7, 2, 4])
        self.check([4], [4], [4])
        self.check([1, 2], [2], [2, 3], [3, 0])

    def test_pieces_without_readings(self):
        self.check([])
        self.check([], [])
        self.check([], [0, 5, 1, 4, 0], [], [], [3, 7])
        self.check([0, 5], [])
        self.check([], [0, 5])
        for load in small_loads(4, 2):
            self.check([], load, [])

    def test_many_counts(self):
        for seed in range(30):
            self.check(*some_loads(12, 20, 9, seed))
        self.check(*([0, 5] for _ in range(500)))
        self.check(*([k] for k in joined_load(some_loads(10, 200, 30))))

    def test_any_cut_of_a_load_into_pieces_gives_its_count(self):
        for load in some_loads(30, 30, 6):
            for cut in range(len(load) + 1):
                for end in range(cut, len(load) + 1, 5):
                    self.check(load[:cut], load[cut:end], load[end:])

    def test_long_pieces(self):
        self.check([0, 1] * 1000, [1, 0] * 1000, [k % 7 for k in range(2000)])
        self.check([-LIMIT, LIMIT] * 1000, [LIMIT, -LIMIT], [0])

    def test_joined_counts_can_be_joined_again(self):
        for seed in range(20):
            first, second, third, *_ = [Count.of(load) for load in some_loads(3, 20, 6, seed)]
            whole = Count.joined(first, second, third)
            self.assertEqual(Count.joined(Count.joined(first, second), third), whole)
            self.assertEqual(Count.joined(first, Count.joined(second, third)), whole)

    def test_counts_of_texts_can_be_joined(self):
        first, second = Count.parse("1:2\n0 5"), Count.parse("none\n2 9")
        self.assertEqual(str(Count.joined(first, second)), "1:2 2:5\n0 9")


if __name__ == "__main__":
    unittest.main()
