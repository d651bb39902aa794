"""The names, arguments and kinds of the interface, all of it."""

import unittest
from importlib import import_module
from inspect import Parameter, getattr_static, isclass, isfunction, isgeneratorfunction, signature

from tests.helpers import LIMIT
from wearswings import errors
from wearswings.calm import calm, is_within
from wearswings.closed import closed_cycles, closed_points, repeated
from wearswings.compare import compared, is_matching, matching, never_more, size_with_more
from wearswings.counters import Counter
from wearswings.counts import Count
from wearswings.factors import factor, factor_matching, factor_table
from wearswings.loads import changes, swings, turning_points
from wearswings.orders import best_order, wear_of
from wearswings.tables import Table

FUNCTIONS = {
    "loads": {
        "contains": ["outer", "inner"],
        "turning_points": ["load"],
        "swings": ["load"],
        "changes": ["load", "low", "high"],
    },
    "counts": {"removable": ["points"], "take": ["points", "place"]},
    "closed": {"closed_points": ["load"], "closed_cycles": ["load"], "repeated": ["load", "times"]},
    "building": {
        "is_rest": ["value"],
        "is_count": ["cycles", "rest"],
        "load_with": ["cycles", "rest"],
        "loads_with": ["cycles", "rest"],
    },
    "compare": {
        "never_more": ["first", "second"],
        "matching": ["first", "second"],
        "is_matching": ["first", "second", "value"],
        "size_with_more": ["first", "second"],
        "compared": ["first", "second"],
    },
    "factors": {
        "factor": ["first", "second"],
        "factor_matching": ["first", "second"],
        "factor_table": ["first", "second"],
    },
    "calm": {"is_within": ["load", "other", "error"], "calm": ["load", "error"]},
    "orders": {"wear_of": ["pieces", "order", "table", "*closed"], "best_order": ["pieces", "table", "*closed"]},
}

# For each class its methods, with their arguments, or the word for what they are otherwise.
CLASSES = {
    "counts": {
        "Count": {
            "of": (classmethod, ["load"]),
            "joined": (staticmethod, ["**counts"]),
            "parse": (classmethod, ["text"]),
            "cycles": property,
            "rest": property,
            "half_cycles": property,
            "changes": (None, ["low", "high"]),
            "__eq__": (None, ["other"]),
            "__str__": (None, []),
        },
    },
    "tables": {
        "Table": {
            "__init__": (None, ["entries"]),
            "amount": (None, ["low", "high"]),
            "wear": (None, ["ranges"]),
            "parse": (classmethod, ["text"]),
            "__eq__": (None, ["other"]),
            "__str__": (None, []),
        },
    },
    "counters": {
        "Counter": {
            "__init__": (None, []),
            "counted": property,
            "total": property,
            "add": (None, ["**readings"]),
            "preview": (None, ["reading"]),
            "attach": (None, ["other"]),
            "fork": (None, []),
        },
    },
    "console": {"Console": {"__init__": (None, []), "answer": (None, ["row"])}},
}

ERRORS = {
    "InvalidText": "row",
    "CannotTake": "place",
    "NoLoad": "cycle",
    "TooLarge": "count",
    "More": "table",
    "NoFactor": "table",
    "InvalidRow": "row",
    "UnknownName": "name",
}

MARKS = {Parameter.POSITIONAL_OR_KEYWORD: "", Parameter.KEYWORD_ONLY: "*", Parameter.VAR_POSITIONAL: "**"}


def arguments(function):
    """Returns the names of the parameters: with * if passed by name, with ** if they take all that is passed."""
    return [MARKS[parameter.kind] + name for name, parameter in signature(function).parameters.items()]


class NamesTest(unittest.TestCase):
    def test_functions_are_defined_where_the_interface_lists_them(self):
        for file, functions in FUNCTIONS.items():
            module = import_module(f"wearswings.{file}")
            for name, names in functions.items():
                function = getattr(module, name)
                self.assertTrue(isfunction(function))
                self.assertEqual(function.__module__, module.__name__)
                self.assertEqual(arguments(function), names, name)
                self.assertIs(isgeneratorfunction(function), name == "loads_with")

    def test_classes_have_all_their_methods_themselves(self):
        for file, classes in CLASSES.items():
            module = import_module(f"wearswings.{file}")
            for name, members in classes.items():
                made = getattr(module, name)
                self.assertTrue(isclass(made))
                self.assertEqual(made.__module__, module.__name__)
                for member, told in members.items():
                    self.assertIn(member, vars(made))
                    self.check_member(getattr_static(made, member), told)

    def check_member(self, member, told):
        if told is property:
            self.assertIsInstance(member, property)
            return
        kind, names = told
        if kind is None:
            self.assertTrue(isfunction(member))
            self.assertEqual(arguments(member)[1:], names)
        else:
            self.assertIsInstance(member, kind)
            self.assertEqual(arguments(member.__func__)[kind is classmethod:], names)

    def test_errors(self):
        made = {name: getattr(errors, name) for name in ERRORS}
        for name, attribute in ERRORS.items():
            self.assertEqual(made[name].__bases__, (errors.WearError,))
            self.assertEqual(arguments(made[name]), [attribute])
            for value in (None, 0, "a", [1, (2,)], Table([]), {"a": {}}):
                self.assertIs(getattr(made[name](value), attribute), value)
                self.assertIs(getattr(made[name](**{attribute: value}), attribute), value)
            self.assertEqual([other for other in made if issubclass(made[name], made[other])], [name])
        self.assertEqual(errors.WearError.__bases__, (ValueError,))


class ListsAndTuplesTest(unittest.TestCase):
    """Point 3 and the interface: loads, entries and lists of ranges may be lists or tuples, and are not changed."""

    def check(self, function, *given):
        """Calls the function with each of the lists as a list and as a tuple."""
        lists, tuples = [list(one) for one in given], [tuple(one) for one in given]
        answers = [function(*lists), function(*tuples), function(*lists[:1], *tuples[1:])]
        self.assertEqual(answers, answers[:1] * 3)
        self.assertEqual(lists, [list(one) for one in given])

    def test_loads(self):
        for load in ([], [4], [0, 7, 3, 4, 1], [4, 4, 0, 9, 0, 9], [-LIMIT, LIMIT, 0]):
            for function in (turning_points, swings, Count.of, closed_points, closed_cycles):
                self.check(function, load)
            self.check(lambda given: changes(given, 3, 4), load)
            self.check(lambda given: repeated(given, 3), load)
            self.check(lambda given: calm(given, 2), load)
            self.check(lambda given, other: is_within(given, other, 1), load, load[::-1])
            self.check(compared, load, [0, 5, 1])
            pieces, table = [load, [3], load[::-1]], Table([(0, 4, 1), (3, 4, 2)])
            self.check(lambda given: wear_of(given, (2, 0, 1), table), pieces)
            self.check(lambda given: wear_of(given, (2, 0, 1), table, closed=True), pieces)
            self.check(lambda given: table.wear(Count.of(given).half_cycles), load)
            self.check(lambda given: sorted(best_order(given, table)), pieces)

    def test_entries(self):
        for entries in ([], [(0, 3, 5)], [(0, 3, 5), (0, 1, 0), (-LIMIT, LIMIT, 10 ** 6)]):
            self.check(Table, entries)

    def test_lists_of_ranges(self):
        first, second = [(0, 2), (1, 2)], [(0, 3), (0, 3), (1, 2)]
        for one, other in [(first, second), ([], []), ([], second), (second[:1], first + second)]:
            for function in (never_more, matching, size_with_more, factor, factor_matching, factor_table):
                self.check(function, one, other)
            self.check(lambda one, other: is_matching(one, other, list(range(len(one)))), one, other)
            self.check(Table([(0, 3, 5), (1, 2, 1)]).wear, one)


class NewListsTest(unittest.TestCase):
    def test_answers_are_lists_and_dicts_of_their_own(self):
        first, second = [(1, 2)], [(0, 3)]
        for function in [
            lambda: swings([0, 5, 1]),
            lambda: repeated([0, 5, 1], 2),
            lambda: matching(first, second),
            lambda: factor_matching(first, second),
            lambda: calm([0, 5, 1], 0),
        ]:
            told = function()
            self.assertIsNot(function(), told)
            begun = str(told)
            told.clear()
            self.assertEqual(str(function()), begun)

    def test_counters_and_counts_keep_what_they_need(self):
        load = [0, 5, 2, 4]
        counter, counted = Counter(), Count.of(load)
        counter.add(*load)
        load[:] = [1]
        self.assertEqual(counter.counted, counted)
        self.assertEqual(str(counted), "none\n0 5 2 4")


if __name__ == "__main__":
    unittest.main()
