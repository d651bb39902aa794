import unittest
from random import Random

from tests.helpers import LIMIT, any_values
from tests.range_helpers import drawn_entries, drawn_ranges, slow_amount, slow_wear
from wearswings.counts import Count
from wearswings.errors import InvalidText
from wearswings.tables import Table

LONG = "1" + "0" * 5000


class AmountTest(unittest.TestCase):
    def test_greatest_amount_of_the_entries_in_a_range(self):
        table = Table([(0, 2, 5), (1, 9, 7)])
        told = [(0, 9, 7), (0, 3, 5), (1, 3, 0), (0, 2, 5), (1, 9, 7), (2, 9, 0), (0, 1, 0), (-1, 8, 5)]
        for low, high, amount in told:
            self.assertEqual(table.amount(low, high), amount)

    def test_the_order_of_the_entries_does_not_matter(self):
        for entries in [[(0, 2, 5), (1, 2, 7)], [(1, 2, 7), (0, 2, 5)], [(0, 2, 7), (1, 2, 5), (0, 1, 0)]]:
            self.assertEqual(Table(entries).amount(0, 2), 7)

    def test_no_entries(self):
        for table in (Table([]), Table(()), Table.parse("")):
            self.assertEqual(table.amount(-LIMIT, LIMIT), 0)
            self.assertEqual(table.wear([(0, 5), (1, 2)]), 0)
            self.assertEqual(table.wear([]), 0)

    def test_least_and_greatest_numbers(self):
        table = Table([(-LIMIT, LIMIT, 10 ** 6), (0, 1, 0), (-LIMIT, 0, 1)])
        self.assertEqual(table.amount(-LIMIT, LIMIT), 10 ** 6)
        self.assertEqual(table.amount(-LIMIT, LIMIT - 1), 1)
        self.assertEqual(table.amount(-LIMIT + 1, LIMIT), 0)

    def test_equal_entries_count_once(self):
        table = Table([(0, 2, 5), (0, 2, 5), (0, 2, 3)])
        self.assertEqual([table.amount(0, 2), table.wear([(0, 2), (0, 2)])], [5, 10])

    def test_wear_is_the_sum(self):
        table = Table([(0, 2, 5), (1, 9, 7)])
        self.assertEqual(table.wear([(0, 9), (0, 2)]), 12)
        self.assertEqual(table.wear(((0, 9), (0, 9), (0, 2), (3, 4))), 19)
        self.assertEqual(table.wear(Count.of([0, 9, 0, 2, 0]).half_cycles), 24)
        self.assertEqual(Table([(0, 1, 10 ** 6)]).wear([(0, 1)] * 2000), 2 * 10 ** 9)

    def test_drawn_tables(self):
        random = Random(1)
        for _ in range(200):
            entries = drawn_entries(random, random.randrange(8), 9)
            ranges = drawn_ranges(random, random.randrange(10), 9)
            table = Table(random.choice([list, tuple])(entries))
            for low, high in ranges:
                self.assertEqual(table.amount(low, high), slow_amount(entries, (low, high)))
            self.assertEqual(table.wear(ranges), slow_wear(entries, ranges))

    def test_arguments_by_name(self):
        table = Table(entries=[(0, 2, 5)])
        self.assertEqual([table.amount(high=3, low=0), table.wear(ranges=[(0, 2)])], [5, 5])


class EntriesTest(unittest.TestCase):
    def test_entries_are_a_tuple_of_tuples_in_their_order(self):
        for entries in [[], [(3, 4, 0)], [(3, 4, 1), (0, 9, 2), (3, 4, 1)], [(-LIMIT, LIMIT, 10 ** 6)]]:
            for given in (entries, tuple(entries)):
                table = Table(given)
                self.assertEqual(table.entries, tuple(entries))
                self.assertIsInstance(table.entries, tuple)
                self.assertEqual({type(entry) for entry in table.entries}, {tuple} if entries else set())

    def test_entries_are_kept(self):
        entries = [(0, 2, 5)]
        table = Table(entries)
        entries.append((0, 1, 9))
        self.assertEqual((table.entries, table.amount(0, 2), str(table)), (((0, 2, 5),), 5, "0 2 5"))

    def test_arguments_are_not_changed(self):
        entries, ranges = [(3, 4, 1), (0, 9, 2)], [(3, 4), (0, 1)]
        table = Table(entries)
        table.wear(ranges)
        self.assertEqual((entries, ranges), ([(3, 4, 1), (0, 9, 2)], [(3, 4), (0, 1)]))


class EqualityTest(unittest.TestCase):
    def test_tables_are_equal_if_their_texts_are(self):
        tables = [Table(entries) for entries in [
            [],
            [(0, 2, 5)],
            [(0, 2, 6)],
            [(0, 3, 5)],
            [(0, 2, 5), (0, 2, 5)],
            [(0, 2, 5), (1, 2, 0)],
            [(1, 2, 0), (0, 2, 5)],
        ]]
        for one in tables:
            for other in tables:
                self.assertEqual(one == other, str(one) == str(other))
                self.assertEqual(one != other, str(one) != str(other))
                self.assertEqual(one == other, one is other)
            self.assertEqual(one, Table(one.entries))
            self.assertEqual(one, Table.parse(str(one)))

    def test_no_other_value_is_equal_to_a_table(self):
        for table in (Table([]), Table([(0, 2, 5)])):
            for value in [*any_values(), (), [], table.entries, list(table.entries), str(table), Count.of([])]:
                self.assertIs(table == value, False)
                self.assertIs(table != value, True)
                self.assertIs(value == table, False)


class TextTest(unittest.TestCase):
    def check(self, text, *entries):
        table = Table.parse(text)
        self.assertIsInstance(table, Table)
        self.assertEqual(table.entries, entries)
        self.assertEqual(str(table), text)
        self.assertEqual(str(Table(entries)), text)

    def refuse(self, row, *texts):
        for text in texts:
            with self.assertRaises(InvalidText, msg=text[:40]) as held:
                Table.parse(text)
            self.assertEqual(held.exception.row, row, text[:40])

    def refuse_row(self, *rows):
        for row in rows:
            self.refuse(0, row, f"{row}\n0 2 5", f"{row}\nx")
            self.refuse(1, f"0 2 5\n{row}", f"0 2 5\n{row}\n0 2 5")
            self.refuse(2, f"0 2 5\n0 2 5\n{row}")

    def test_texts_of_tables(self):
        self.check("")
        self.check("0 2 5", (0, 2, 5))
        self.check("0 2 5\n1 9 7", (0, 2, 5), (1, 9, 7))
        self.check("1 9 7\n0 2 5\n1 9 7", (1, 9, 7), (0, 2, 5), (1, 9, 7))
        self.check("-3 -2 0", (-3, -2, 0))
        self.check("-10 0 1000000", (-10, 0, 10 ** 6))
        self.check("-1000000000 1000000000 1000000", (-LIMIT, LIMIT, 10 ** 6))
        self.check("\n".join(["0 1 1"] * 2000), *[(0, 1, 1)] * 2000)

    def test_drawn_tables(self):
        random = Random(2)
        for _ in range(100):
            entries = drawn_entries(random, random.randrange(1, 8), 30)
            self.check("\n".join(f"{low} {high} {amount}" for low, high, amount in entries), *entries)

    def test_numbers_of_words(self):
        self.refuse_row("0", "0 2", "0 2 5 7", "0 2 5 0 2 5", "025", "x", "none", "0:2:5", "0,2,5", "(0, 2, 5)")

    def test_spaces(self):
        self.refuse_row(" ", "  ", " 0 2 5", "0 2 5 ", "0  2 5", "0 2  5", "0 2 ", " 2 5")
        self.refuse_row("0\t2\t5", "0 2\t5", "0 2 5\t", "\t0 2 5")
        self.refuse_row("0 2 5\r", "0 2 5\v", "0 2\u00a05", "0 2 5\u2028", "0 2\x0b5", "0 2 5\x00")

    def test_empty_rows(self):
        self.refuse(0, "\n", "\n\n", "\n0 2 5")
        self.refuse(1, "0 2 5\n", "0 2 5\n\n", "0 2 5\n\n0 2 5")
        self.refuse(2, "0 2 5\n1 9 7\n")

    def test_other_line_ends_are_no_rows(self):
        self.refuse(0, "0 2 5\r\n1 9 7", "0 2 5\r1 9 7", "0 2 5\x0c1 9 7", "0 2 5\u20281 9 7", "0 2 5\x851 9 7")

    def test_numbers(self):
        words = ["00", "01", "-0", "-01", "+0", "+1", "--1", "-", "+", "1.0", "1e0", "0x1", "1_0", "x", ":"]
        for word in [*words, "\u0661", "\u00b9"]:
            self.refuse_row(f"{word} 9 5", f"-9 {word} 5", f"-9 9 {word}")

    def test_bounds_of_readings(self):
        for word in [LIMIT + 1, 10 ** 10, LONG, "0" * 5000, "9" * 1000]:
            self.refuse_row(f"0 {word} 5", f"-{word} 0 5")
        self.refuse_row(f"{-LIMIT - 1} {LIMIT} 5", f"{-LIMIT} {LIMIT + 1} 5", f"{-LIMIT - 1} {LIMIT + 1} 5")

    def test_low_is_less_than_high(self):
        self.refuse_row("2 2 5", "2 0 5", "0 -1 5", "0 0 0", f"{LIMIT} {-LIMIT} 5", "10 9 1", "-9 -10 1")

    def test_bounds_of_amounts(self):
        self.refuse_row("0 2 -1", "0 2 1000001", "0 2 -1000000", "0 2 10000000", f"0 2 {LIMIT}", f"0 2 {LIMIT + 1}")
        self.refuse_row(f"0 2 {LONG}", f"0 2 -{LONG}", "0 2 0000001")
        self.check("0 2 0\n0 2 1000000\n0 2 999999", (0, 2, 0), (0, 2, 10 ** 6), (0, 2, 999999))

    def test_first_row_that_is_not_of_the_form(self):
        self.refuse(0, "x\ny\nz", "0 2\n\n", "\nx")
        self.refuse(1, "0 2 5\nx\n\ny", "0 2 5\n2 0 5\n0 2")
        self.refuse(1999, "0 2 5\n" * 1999 + "0 2 -1\n")

    def test_argument_by_name(self):
        self.assertEqual(Table.parse(text="0 2 5").entries, ((0, 2, 5),))


if __name__ == "__main__":
    unittest.main()
