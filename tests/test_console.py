import unittest
from fractions import Fraction
from itertools import product
from random import Random
from time import process_time

from tests.helpers import LIMIT, small_loads, some_loads
from wearswings.calm import calm
from wearswings.closed import closed_cycles
from wearswings.compare import compared
from wearswings.console import Console
from wearswings.counts import Count
from wearswings.errors import InvalidRow, NoFactor, TooLarge, UnknownName, WearError
from wearswings.factors import factor
from wearswings.tables import Table

LONG = "1" + "0" * 5000
LOADS = {"a": [0, 5, 0], "b": [0, 5, 0, 1], "c": [4], "abcdefgh": [0, 7, 3, 4, 1], "z": [-LIMIT, LIMIT]}


def spaced(numbers):
    return " ".join(map(str, numbers))


def console_with(loads):
    console = Console()
    for name, load in loads.items():
        console.answer(f"load {name} {spaced(load)}")
    return console


class ConsoleCase(unittest.TestCase):
    def setUp(self):
        self.console = console_with(LOADS)

    def check(self, row, told):
        answer = self.console.answer(row)
        self.assertEqual(answer, told, row)
        self.assertIsInstance(answer, str)

    def everything(self):
        """Returns the answers that tell all about what the console keeps."""
        names = self.console.answer("names")
        kept = [] if names == "none" else names.split(" ")
        return names, [self.console.answer(f"calm {name} 0") for name in kept]

    def refuse(self, error, told, row):
        before = self.everything()
        with self.assertRaises(error) as held:
            self.console.answer(row)
        self.assertIs(type(held.exception), error, row)
        self.assertEqual(list(vars(held.exception).values()), [told])
        self.assertEqual(self.everything(), before)

    def refuse_rows(self, *rows):
        for row in rows:
            self.refuse(InvalidRow, row, row)


class LoadTest(ConsoleCase):
    def test_console_without_loads(self):
        console = Console()
        self.assertEqual(console.answer("names"), "none")
        for row in ("count a", "closed a", "compare a a", "factor a a", "calm a 0", "wear a 0:1:1"):
            with self.assertRaises(UnknownName):
                console.answer(row)
        self.assertEqual(console.answer("names"), "none")

    def test_names_are_in_ascending_order(self):
        self.check("names", "a abcdefgh b c z")
        self.console.answer("load zz 1")
        self.console.answer("load ab 1")
        self.console.answer("load none 1")
        self.console.answer("load load 1")
        self.console.answer("load zzzzzzzz 1")
        self.check("names", "a ab abcdefgh b c load none z zz zzzzzzzz")

    def test_one_load(self):
        console = Console()
        self.assertEqual(console.answer("load q 0"), "ok")
        self.assertEqual(console.answer("names"), "q")
        self.assertEqual(console.answer("count q"), "none / 0")

    def test_readings(self):
        for load in ([0], [-1], [7, 7, 7], [-LIMIT, 0, LIMIT], [10, -10, 100, 0, 0], [999999999, -999999999]):
            self.check(f"load x {spaced(load)}", "ok")
            self.check("calm x 0", spaced(load))

    def test_loads_are_replaced(self):
        self.check("load a 0 9", "ok")
        self.check("count a", "none / 0 9")
        self.check("names", "a abcdefgh b c z")
        self.check("load a 3", "ok")
        self.check("load b 8 8", "ok")
        self.check("calm a 0", "3")
        self.check("calm b 0", "8 8")
        self.check("calm c 0", "4")

    def test_names_of_one_and_of_eight_letters(self):
        for name in ("a", "z", "aaaaaaaa", "zzzzzzzz", "names", "load", "none", "count", "calm"):
            self.check(f"load {name} 1 2", "ok")
            self.check(f"count {name}", "none / 1 2")
        self.refuse_rows("load abcdefghi 1", "count abcdefghi", "load aaaaaaaaa 1 2", "load  1", "count ")

    def test_number_of_readings(self):
        for many in (1, 2, 1999, 2000):
            self.check(f"load x {spaced([k % 3 for k in range(many)])}", "ok")
        self.check("count x", str(Count.of([k % 3 for k in range(2000)])).replace("\n", " / "))
        self.refuse_rows(
            f"load x {spaced([7] * 2001)}", f"load x {spaced([7] * 2002)}", f"load y {spaced([7] * 4000)}", "load x"
        )

    def test_two_consoles_share_nothing(self):
        one, other = Console(), Console()
        one.answer("load a 0 5")
        self.assertEqual([one.answer("names"), other.answer("names")], ["a", "none"])
        other.answer("load a 1 2")
        other.answer("load b 1 2")
        self.assertEqual([one.answer("count a"), one.answer("names")], ["none / 0 5", "a"])
        self.assertEqual([other.answer("count a"), other.answer("names")], ["none / 1 2", "a b"])

    def test_argument_by_name(self):
        self.assertEqual(Console().answer(row="names"), "none")
        with self.assertRaises(InvalidRow):
            Console().answer(row="name")


class AnswersTest(ConsoleCase):
    def test_count(self):
        self.check("count a", "none / 0 5 0")
        self.check("count b", "none / 0 5 0 1")
        self.check("count c", "none / 4")
        self.check("count abcdefgh", "3:4 / 0 7 1")
        self.console.answer("load d 5 5 5")
        self.check("count d", "none / 5")
        self.console.answer("load e 0 9 5 6 2 3 1 8 0 -4 9 -4 9")
        self.check("count e", "-4:9 1:8 2:3 5:6 / 0 9 -4 9")

    def test_closed(self):
        self.check("closed a", "0:5")
        self.check("closed b", "0:1 0:5")
        self.check("closed c", "none")
        self.check("closed abcdefgh", "0:7 3:4")
        self.check("closed z", "-1000000000:1000000000")
        self.console.answer("load d 5 5 5")
        self.check("closed d", "none")
        self.console.answer("load e 0 5 0 5")
        self.check("closed e", "0:5 0:5")

    def test_compare(self):
        self.check("compare a b", "less")
        self.check("compare b a", "more")
        self.check("compare a a", "alike")
        self.check("compare a c", "more")
        self.check("compare c a", "less")
        self.console.answer("load d 5 0 5")
        self.console.answer("load e 1 6")
        self.check("compare a d", "alike")
        self.check("compare b e", "neither")
        self.check("compare e b", "neither")

    def test_factor(self):
        self.check("factor b a", "3/2")
        self.check("factor a b", "1/1")
        self.check("factor a a", "1/1")
        self.check("factor c a", "0/1")
        self.check("factor c c", "0/1")
        self.check("factor a c", "none")
        self.check("factor z a", "none")
        self.check("factor a z", "2/1")
        self.console.answer("load d 0 5 0 5 0")
        self.check("factor d a", "2/1")
        self.check("factor a d", "1/2")

    def test_factor_of_large_loads(self):
        self.console.answer(f"load d {spaced([0, 1] * 6)} 0")
        self.console.answer(f"load e {spaced([0, 1] * 7)}")
        self.console.answer(f"load f {spaced([0, 1] * 100)}")
        self.check("factor d d", "1/1")
        self.check("factor d a", "6/1")
        self.refuse(TooLarge, 13, "factor e d")
        self.refuse(TooLarge, 13, "factor d e")
        self.refuse(TooLarge, 13, "factor e f")
        self.refuse(TooLarge, 199, "factor f e")
        self.refuse(TooLarge, 199, "factor c f")
        self.refuse(TooLarge, 199, "factor f c")

    def test_calm(self):
        self.console.answer("load d 0 5 4 5 1")
        self.check("calm d 1", "1 4 4 4 2")
        self.check("calm d 0", "0 5 4 5 1")
        self.check("calm d 2", "2 3 3 3 3")
        self.check("calm d 3", "2 2 2 2 2")
        self.check("calm d 1000000000", spaced([5 - LIMIT] * 5))
        self.check("calm c 1000000000", spaced([4 - LIMIT]))
        self.check("calm z 1000000000", "0 0")
        self.check("calm z 999999999", "-1 1")
        self.console.answer("load e -1000000000")
        self.check("calm e 1000000000", "-2000000000")
        self.check("calm e 0", "-1000000000")

    def test_calm_does_not_change_the_load(self):
        self.console.answer("load d 0 5 4 5 1")
        self.console.answer("calm d 2")
        self.check("calm d 0", "0 5 4 5 1")

    def test_wear(self):
        self.check("wear a 0:5:7", "14")
        self.check("wear b 0:5:7", "14")
        self.check("wear b 0:5:7 0:1:2", "16")
        self.check("wear b 0:1:2 0:5:7 0:1:3 0:5:0", "17")
        self.check("wear a 0:5:0", "0")
        self.check("wear a 0:6:1000000", "0")
        self.check("wear a 0:5:1000000", "2000000")
        self.check("wear c 0:5:7", "0")
        self.check("wear z -1000000000:1000000000:1000000", "1000000")
        self.check("wear z -1:1:0 -1000000000:-999999999:1", "1")
        self.check("wear abcdefgh 3:4:1 1:7:10 0:7:100", "112")
        self.check(f"wear a {' '.join(['0:1:3'] * 1600)}", "6")


class AsTheFunctionsDoTest(unittest.TestCase):
    def check(self, first, second, error, entries):
        console = console_with({"first": first, "second": second})
        one, other = Count.of(first), Count.of(second)
        cycles = " ".join(f"{low}:{high}" for low, high in closed_cycles(first)) or "none"
        words = " ".join(f"{low}:{high}:{amount}" for low, high, amount in entries)
        for row, told in [
            ("names", "first second"),
            ("count first", str(one).replace("\n", " / ")),
            ("count second", str(other).replace("\n", " / ")),
            ("closed first", cycles),
            ("compare first second", compared(first, second)),
            (f"calm first {error}", spaced(calm(first, error))),
            (f"wear second {words}", str(Table(entries).wear(other.half_cycles))),
        ]:
            self.assertEqual(console.answer(row), told, (first, second))
        self.check_factor(console, one.half_cycles, other.half_cycles)

    def check_factor(self, console, first, second):
        try:
            told = "{}/{}".format(*factor(first, second))
        except NoFactor:
            told = "none"
        except TooLarge as error:
            with self.assertRaises(TooLarge) as held:
                console.answer("factor first second")
            self.assertEqual(held.exception.count, error.count)
            return
        self.assertEqual(console.answer("factor first second"), told)
        if told != "none":
            self.assertEqual(str(Fraction(told)), told.removesuffix("/1"))

    def test_all_small_pairs(self):
        loads = [load for load in small_loads(3, 2) if load]
        for first, second in product(loads, repeat=2):
            self.check(first, second, 1, [(0, 1, 3), (0, 2, 5), (1, 2, 0)])

    def test_drawn_pairs(self):
        random = Random(1)
        for seed in range(60):
            loads = [[reading - 4 for reading in load] for load in some_loads(8, 14, 9, seed) if load]
            entries = [(k - 4, k - 2, random.randrange(9)) for k in range(random.randrange(1, 9))]
            self.check(loads[0], loads[1], random.randrange(6), entries)

    def test_long_loads(self):
        for first, second in zip(some_loads(3, 400, 30, 2), some_loads(3, 2000, 30, 3)):
            self.check([4, *first], [4, *second[:1999]], 3, [(0, 1, 3), (2, 9, 5)])


class InvalidRowTest(ConsoleCase):
    def test_rows_without_words(self):
        self.refuse_rows("", " ", "  ", "   ")

    def test_words_that_are_no_command(self):
        self.refuse_rows("x", "name", "namess", "Names", "NAMES", "loads a 1", "Load a 1", "LOAD a 1", "counts a")
        self.refuse_rows("count, a", "a", "a b", "1", "ok", "none", "joined a b", "less a b", "answer names")
        self.refuse_rows("Count a", "COUNT a", "Closed a", "Compare a b", "Factor a b", "Calm a 1", "Wear a 0:1:1")

    def test_spaces(self):
        rows = ["names", "load a 1 2", "count a", "closed a", "compare a b", "factor a b", "calm a 1", "wear a 0:1:1"]
        for row in rows:
            self.console.answer(row)
            self.refuse_rows(f" {row}", f"{row} ", f"  {row}", f"{row}  ", f" {row} ", f"{row}\n", f"\n{row}")
            self.refuse_rows(row.replace(" ", "", 1) if " " in row else "name s")
            for place, sign in enumerate(row):
                if sign == " ":
                    self.refuse_rows(row[:place] + " " + row[place:], row[:place] + "   " + row[place:])
                    self.refuse_rows(row[:place] + "\t" + row[place + 1:], row[:place] + "\n" + row[place + 1:])

    def test_words_left_out_or_put_in(self):
        self.refuse_rows("names a", "names names", "names 1")
        self.refuse_rows("load", "load a", "load 1", "load 1 2", "load a b", "load a b 1", "load a 1 b")
        self.refuse_rows("count", "count a b", "count a a", "count a 1", "count 1")
        self.refuse_rows("closed", "closed a b", "closed a 0", "closed a none")
        self.refuse_rows("compare", "compare a", "compare a b c", "compare a b 1", "compare a 1", "compare 1 a")
        self.refuse_rows("factor", "factor a", "factor a b c", "factor a b 1", "factor a 1", "factor 1 a")
        self.refuse_rows("calm", "calm a", "calm 1", "calm a b", "calm a b 1", "calm a 1 1", "calm a 1 b", "calm 1 a")
        self.refuse_rows("wear", "wear a", "wear 0:1:1", "wear a b", "wear a b 0:1:1", "wear a 0:1:1 b", "wear 0:1:1 a")

    def test_names(self):
        words = ["A", "aB", "Ab", "abcdefgH", "abcdefghi", "a1", "1a", "1", "0", "-", "-a", "a-b", "a_b", "_", "a."]
        words += ["a,b", "a:b", "a/b", "a~", "!", "a'", '"a"', "~", "{", "`", "@", "["]
        words += ["\u00e4", "a\u00e4", "\u03b1", "a\u0301"]
        words += ["a" * 9, "a" * 5000, "none" * 3, "\u00aa", "a\n", "\na", "a\t", "a\x00"]
        for word in words:
            self.refuse_rows(f"load {word} 1", f"count {word}", f"closed {word}", f"calm {word} 1")
            self.refuse_rows(f"compare {word} a", f"compare a {word}", f"factor {word} a", f"factor a {word}")
            self.refuse_rows(f"wear {word} 0:1:1")

    def test_numbers(self):
        words = ["+1", "-0", "+0", "00", "01", "-01", "--1", "-", "+", "1.0", "1e3", "0x1", "1_0", "1,", "1-", "a"]
        words += ["\u0661", "\u00b9", "\u00bd", "1\u0661", LONG, f"-{LONG}", "0" * 5000, "9" * 9000, "1 ", ":", "1:2"]
        for word in words:
            self.refuse_rows(f"load a {word}", f"load a 1 {word}", f"load a {word} 1", f"load new {word} 1 2")
            self.refuse_rows(f"calm a {word}")
            if ":" not in word:
                self.refuse_rows(f"wear a {word}:9:1", f"wear a -9:{word}:1", f"wear a 0:9:{word}")
                self.refuse_rows(f"wear a 0:9:1 {word}:9:1", f"wear a 0:9:{word} 0:9:1")

    def test_bounds_of_readings(self):
        for number in (LIMIT + 1, 10 ** 10, 10 ** 20, 2 * LIMIT):
            self.refuse_rows(f"load a {number}", f"load a -{number}", f"load a 0 {number}", f"load a {-number} 0")
            self.refuse_rows(f"calm a {number}", f"calm a -{number}")
            self.refuse_rows(f"wear a 0:{number}:1", f"wear a -{number}:0:1", f"wear a 0:1:1 0:{number}:1")
        self.check(f"load a {LIMIT} {-LIMIT}", "ok")

    def test_bounds_of_errors(self):
        self.refuse_rows("calm a -1", "calm a -5", f"calm a -{LIMIT}", f"calm a {LIMIT + 1}", "calm c -1")
        self.check(f"calm a {LIMIT}", spaced([5 - LIMIT] * 3))
        self.check("calm a 0", "0 5 0")

    def test_entries(self):
        self.refuse_rows("wear a 0:1", "wear a 0:1:1:1", "wear a 0", "wear a :", "wear a ::", "wear a :::")
        self.refuse_rows("wear a 0::1", "wear a 0:1:1:0:1:1")
        self.refuse_rows("wear a 0:1:", "wear a :0:1", "wear a 0:1:1,0:1:1", "wear a 0 1 1", "wear a 0:1:1:")
        self.refuse_rows("wear a 0:1:1 0:1", "wear a 0:1 0:1:1", "wear a 0:1:1 0:1:1:1", "wear a :0:1:1")
        self.refuse_rows(f"wear a 0:1:1{':' * 5000}", "wear a 0-1-1", "wear a 0/1/1", "wear a (0:1:1)", "wear a none")

    def test_low_is_less_than_high(self):
        self.refuse_rows("wear a 0:0:1", "wear a 1:0:1", "wear a 0:-1:1", "wear a -1:-2:1", "wear a 10:9:1")
        self.refuse_rows("wear a 0:1:1 1:1:1", "wear a 1:1:1 0:1:1", f"wear a {LIMIT}:{-LIMIT}:1", "wear a 5:0:0")

    def test_amounts(self):
        self.refuse_rows("wear a 0:1:-1", "wear a 0:1:1000001", "wear a 0:1:-1000000", f"wear a 0:1:{LIMIT}")
        self.refuse_rows(f"wear a 0:1:{LONG}", "wear a 0:1:1 0:1:1000001", "wear a 0:1:2000000")
        self.check("wear a 0:1:0", "0")
        self.check("wear a 0:1:1000000", "2000000")

    def test_rows_of_many_words(self):
        self.refuse_rows("names " * 1000, " ".join(["a"] * 5000), f"count {'a ' * 4000}", " " * 9999, ":" * 9999)


class UnknownNameTest(ConsoleCase):
    def test_names_that_no_load_has(self):
        for row in ("count d", "closed d", "calm d 0", "wear d 0:1:1", "compare d a", "compare a d", "compare d d"):
            self.refuse(UnknownName, "d", row)
        for row in ("factor d a", "factor a d", "factor d d"):
            self.refuse(UnknownName, "d", row)
        for name in ("aa", "none", "names", "abcdefg", "zzzzzzzz"):
            self.refuse(UnknownName, name, f"count {name}")

    def test_the_first_of_two(self):
        for command in ("compare", "factor"):
            self.refuse(UnknownName, "x", f"{command} x y")
            self.refuse(UnknownName, "y", f"{command} y x")
            self.refuse(UnknownName, "y", f"{command} y a")
            self.refuse(UnknownName, "y", f"{command} a y")

    def test_rows_without_a_form_come_first(self):
        self.refuse_rows("count d e", "calm d", "calm d -1", "calm d 01", "calm d 1000000001", "compare d")
        self.refuse_rows("compare d e f", "compare d E", "factor D e", "wear d", "wear d 1:1:1", "wear d 0:1:1 x")
        self.refuse_rows("wear d 0:1:1000001", "factor d e 1", "load d", "load d -0")
        self.refuse_rows("count d ", " count d", "closed  d")

    def test_they_come_before_the_errors_of_functions(self):
        self.console.answer(f"load e {spaced([0, 1] * 50)}")
        self.refuse(UnknownName, "d", "factor e d")
        self.refuse(UnknownName, "d", "factor d e")
        self.refuse(TooLarge, 99, "factor e a")

    def test_all_errors_are_errors_of_the_program(self):
        self.console.answer(f"load e {spaced([0, 1] * 50)}")
        for row in ("", "count d", "factor a e"):
            with self.assertRaises(WearError):
                self.console.answer(row)


class NothingChangesTest(ConsoleCase):
    def test_rows_that_raise_errors_between_others(self):
        self.refuse_rows("load a 1 2 x", "load a", f"load a {spaced([1] * 2001)}", "load new 1 2 -0", "load a 1 2 ")
        self.check("calm a 0", "0 5 0")
        self.refuse(UnknownName, "new", "count new")
        self.check("names", "a abcdefgh b c z")

    def test_questions_change_nothing(self):
        before = self.everything()
        for row in ("names", "count a", "closed a", "compare a b", "factor a b", "calm a 3", "wear a 0:1:1"):
            told = self.console.answer(row)
            self.check(row, told)
            self.assertEqual(self.everything(), before)


class LongRunsTest(ConsoleCase):
    def test_loads_of_two_thousand_readings(self):
        random = Random(2)
        widening = [k if k % 2 else -k for k in range(2000)]
        loads = {
            "drawn": [random.randrange(100000) for _ in range(2000)],
            "other": [random.randrange(100000) for _ in range(2000)],
            "few": [random.randrange(4) for _ in range(2000)],
            "wide": widening,
            "wider": [2 * reading for reading in widening],
            "narrow": widening[::-1],
            "saw": [0, 1] * 1000,
        }
        begun = process_time()
        self.console = console_with(loads)
        entries = " ".join(f"{k}:{k + 7}:{k % 9}" for k in range(700))
        for name in loads:
            for row in (f"count {name}", f"closed {name}", f"calm {name} 70", f"wear {name} {entries}"):
                self.assertIsInstance(self.console.answer(row), str)
            for other in ("drawn", "wide", "narrow", "saw"):
                told = self.console.answer(f"compare {name} {other}")
                self.assertEqual(told == "alike", name == other or {name, other} == {"wide", "narrow"})
        self.assertEqual(self.console.answer("compare wide wider"), "less")
        self.assertEqual(self.console.answer("compare wider narrow"), "more")
        self.refuse(TooLarge, 1999, "factor saw wide")
        self.assertLess(process_time() - begun, 8)


if __name__ == "__main__":
    unittest.main()
