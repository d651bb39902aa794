import unittest
from itertools import combinations, combinations_with_replacement, product

from tests.helpers import LIMIT, slow_outcomes, slow_turning_points, small_loads, some_loads
from wearswings.counts import Count
from wearswings.errors import InvalidText

LONG = "1" + "0" * 5000


class WritingTest(unittest.TestCase):
    def test_edges(self):
        for load, text in [
            ([], "none\nnone"),
            ([4], "none\n4"),
            ([-4, -4], "none\n-4"),
            ([0, 5, 0], "none\n0 5 0"),
            ([0, 7, 3, 4, 1], "3:4\n0 7 1"),
            ([-9, 9, -7, -3, -9], "-7:-3\n-9 9 -9"),
            ([0, 9, 5, 6, 2, 3, 2, 3, 0], "2:3 2:3 5:6\n0 9 0"),
            ([-LIMIT, LIMIT, -LIMIT, LIMIT], "-1000000000:1000000000\n-1000000000 1000000000"),
        ]:
            self.assertEqual(str(Count.of(load)), text)

    def test_cycles_are_ordered_as_numbers(self):
        self.assertEqual(str(Count.of([0, 99, 9, 10, 2, 3, 0])), "2:3 9:10\n0 99 0")
        self.assertEqual(str(Count.of([-99, 9, -5, -4, -20, -1, -99])), "-20:-1 -5:-4\n-99 9 -99")


class ReadingTest(unittest.TestCase):
    def check(self, text, cycles, rest):
        count = Count.parse(text)
        self.assertEqual((count.cycles, count.rest), (cycles, rest))
        self.assertEqual(str(count), text)

    def refuse(self, row, *texts):
        for text in texts:
            with self.assertRaises(InvalidText, msg=text[:40]) as held:
                Count.parse(text)
            self.assertEqual(held.exception.row, row, text[:40])

    def test_texts_of_counts_are_read(self):
        self.check("none\nnone", (), ())
        self.check("none\n0", (), (0,))
        self.check("none\n-7", (), (-7,))
        self.check("none\n5 0", (), (5, 0))
        self.check("0:5\n0 5", ((0, 5),), (0, 5))
        self.check("0:5 0:5\n5 0", ((0, 5), (0, 5)), (5, 0))
        self.check("-2:-1 -2:0 3:10\n-2 10 -2", ((-2, -1), (-2, 0), (3, 10)), (-2, 10, -2))
        self.check("0:1\n2 3 0 9 0 5 4", ((0, 1),), (2, 3, 0, 9, 0, 5, 4))
        self.check(f"{-LIMIT}:{LIMIT}\n{LIMIT} {-LIMIT}", ((-LIMIT, LIMIT),), (LIMIT, -LIMIT))

    def test_texts_of_all_small_loads_are_read(self):
        for load in [*small_loads(6, 3), *some_loads(30, 60, 30)]:
            count = Count.of(load)
            told = Count.parse(str(count))
            self.assertEqual(told, count)
            self.assertEqual((told.cycles, told.rest), (count.cycles, count.rest))
            self.assertEqual(told.half_cycles, count.half_cycles)

    def test_exactly_the_texts_of_counts_are_read(self):
        ranges = list(combinations(range(3), 2))
        known = {outcome for load in small_loads(8, 2) for outcome in slow_outcomes(slow_turning_points(load))}
        rests = [rest for length in range(5) for rest in product(range(3), repeat=length)]
        for number in range(3):
            for cycles in combinations_with_replacement(ranges, number):
                row = " ".join(f"{low}:{high}" for low, high in cycles) or "none"
                for rest in rests:
                    text = row + "\n" + (" ".join(map(str, rest)) or "none")
                    try:
                        count = Count.parse(text)
                        found = (count.cycles, count.rest)
                        self.assertEqual(found, (cycles, rest))
                        self.assertIn(found, known)
                    except InvalidText:
                        self.assertNotIn((cycles, rest), known)

    def test_long_texts(self):
        count = Count.of([0, 1] * 1000)
        self.check(str(count), ((0, 1),) * 999, (0, 1))
        widening = tuple(k if k % 2 else -k for k in range(2000))
        self.check(str(Count.of(widening)), (), widening)

    def test_numbers_of_rows(self):
        self.refuse(0, "", "\n", "\nnone", "\n\n", "0 5", " ")
        self.refuse(1, "none", "0:5", "none\n", "0:5\n", "none\n\n", "0:5\n\n0 5")
        self.refuse(2, "none\nnone\n", "0:5\n0 5\n", "0:5\n0 5\n0 5", "none\n1\nnone\nnone", "none\n1\n\n\n")

    def test_other_line_ends_are_no_rows(self):
        self.refuse(0, "none\r\nnone", "none\rnone", "none\vnone", "none\x0c\nnone", "none\u2028none\nnone")
        self.refuse(1, "none\nnone\r", "none\n0 5\r", "none\n0\r5")

    def test_words_of_cycles(self):
        for word in [
            "none none",
            "None",
            "NONE",
            "none ",
            " none",
            "0:5 none",
            "none 0:5",
            "0",
            "0:",
            ":5",
            ":",
            "0:5:",
            ":0:5",
            "0::5",
            "0:3:5",
            "0-5",
            "0;5",
            "0 5",
            "0 :5",
            "0: 5",
            "(0, 5)",
            "0:5,1:2",
            "0:5 ",
            " 0:5",
            "0:5  0:5",
            "0:5\t0:5",
            "0:5 x",
            "x:5",
            "0:x",
            "0:5.0",
            "0:0x5",
            "0:5e0",
            "0:1_0",
        ]:
            self.refuse(0, f"{word}\n0 5", f"{word}\nnone", f"{word}\nx", word, f"{word}\n0 5\n")

    def test_numbers_of_cycles(self):
        for word in ["00", "05", "-0", "-05", "+0", "+5", "--5", "-", "+", "", "- 5", "\u0665", "\u00b2", "5 ", "0b1"]:
            self.refuse(0, f"{word}:9\n-9 9", f"-9:{word}\n-9 9")

    def test_bounds_of_cycles(self):
        rest = f"{-LIMIT} {LIMIT}"
        for low, high in [
            (-LIMIT - 1, 0),
            (0, LIMIT + 1),
            (-LIMIT - 1, LIMIT + 1),
            (0, LONG),
            ("-" + LONG, 0),
            ("0" * 5000, 1),
            (-10 ** 10, 0),
            (0, 10 ** 10),
        ]:
            self.refuse(0, f"{low}:{high}\n{rest}")
        self.check(f"{-LIMIT}:{LIMIT}\n{rest}", ((-LIMIT, LIMIT),), (-LIMIT, LIMIT))

    def test_cycles_are_ranges_in_ascending_order(self):
        self.refuse(0, "5:5\n0 9", "5:4\n0 9", "0:5 5:0\n0 9", "0:-1\n-9 9")
        self.refuse(0, "0:5 0:4\n0 9", "1:5 0:9\n0 9", "1:2 3:4 2:5\n0 9", "9:10 8:10\n0 10", "0:1 -1:1\n-1 1")
        self.refuse(0, "10:11 9:10\n0 20")
        self.check("9:10 10:11\n0 20", ((9, 10), (10, 11)), (0, 20))

    def test_words_of_points(self):
        for row in [
            "",
            " ",
            "None",
            "none none",
            "none ",
            " none",
            "0 none",
            "none 0",
            "0  5",
            " 0 5",
            "0 5 ",
            "0,5",
            "0\t5",
            "0:5",
            "0 5:",
            "x",
            "0 x",
            "0.0",
            "1_0",
            "0x1",
            "()",
        ]:
            self.refuse(1, f"none\n{row}", f"0:5\n{row}", f"none\n{row}\n", f"none\n{row}\n0 5")

    def test_numbers_of_points(self):
        for word in ["00", "05", "-0", "-05", "+0", "+5", "--5", "-", "+", "\u0665", "\u00b2"]:
            self.refuse(1, f"none\n{word}", f"none\n-9 {word}", f"none\n{word} -9", f"none\n{word}\n")

    def test_bounds_of_points(self):
        for word in [LIMIT + 1, -LIMIT - 1, 10 ** 10, LONG, "-" + LONG, "0" * 5000, "-" + "0" * 5000]:
            self.refuse(1, f"none\n{word}", f"none\n0 {word}", f"none\n{word} 0", f"0:5\n0 {word}\n")
        self.check(f"none\n{LIMIT}", (), (LIMIT,))
        self.check(f"none\n{-LIMIT}", (), (-LIMIT,))

    def test_points_that_are_no_rest(self):
        self.refuse(1, "none\n0 0", "none\n0 5 5", "none\n0 3 5", "none\n5 3 0", "none\n0 5 5 0")
        self.refuse(1, "none\n0 5 0 5", "none\n0 4 1 5", "none\n5 1 4 0", "none\n0 7 3 4 1", "0:5\n0 5 0 5")

    def test_cycles_outside_the_range_of_the_rest(self):
        self.refuse(0, "0:1\nnone", "0:1\n0", "0:1\n1", "0:5\n5", "4:5 4:6\n5")
        self.refuse(0, "1:2\n0 1", "-1:0\n0 5", "0:6\n0 5", "-1:6\n0 5", "6:7\n0 5", "-2:-1\n0 5")
        self.refuse(0, "0:5 1:6\n0 5", "-1:1 0:5\n0 5", "0:1 0:5 0:6\n5 0")
        self.check("0:9\n3 4 0 9 5", ((0, 9),), (3, 4, 0, 9, 5))
        self.refuse(0, "0:10\n3 4 0 9 5")

    def test_the_error_that_is_listed_first_is_raised(self):
        self.refuse(0, "x\nx\nx", "x\n0 0", "5:4\n0 3 5\n")
        self.refuse(1, "0:9\nx\nx", "0:9\n+5")
        self.refuse(2, "none\n0 0\n", "0:9\n0 5\n", "0:9\n0 3 5\nnone")
        self.refuse(1, "0:9\n0 3 5", "0:1\n0 0", "7:8\n0 5 0 5")
        self.refuse(0, "0:9\n0 5")


if __name__ == "__main__":
    unittest.main()
