import unittest

from wearswings import errors

ATTRIBUTES = {
    "InvalidText": "row",
    "CannotTake": "place",
    "NoLoad": "cycle",
    "TooLarge": "count",
    "More": "table",
    "NoFactor": "table",
    "InvalidRow": "row",
    "UnknownName": "name",
}

VALUES = [
    0,
    -3,
    10 ** 5000,
    True,
    None,
    "",
    "load {a} b",
    (),
    (1, 2),
    ("one",),
    [1, [2]],
    {"a": {"b": (1,)}},
]


class ErrorsTest(unittest.TestCase):
    def classes(self):
        return {name: getattr(errors, name) for name in ATTRIBUTES}

    def test_all_errors_derive_from_the_base_class_and_from_value_error(self):
        self.assertEqual(errors.WearError.__bases__, (ValueError,))
        for name, made in self.classes().items():
            self.assertEqual(made.__bases__, (errors.WearError,), name)
            self.assertEqual(made.__name__, name)
            self.assertEqual(made.__module__, "wearswings.errors")

    def test_no_error_is_a_subclass_of_another_one(self):
        made = list(self.classes().values())
        for one in made:
            self.assertEqual([other for other in made if issubclass(one, other)], [one])

    def test_attribute_holds_what_is_passed_by_position(self):
        for name, made in self.classes().items():
            for value in VALUES:
                error = made(value)
                self.assertIs(getattr(error, ATTRIBUTES[name]), value)

    def test_attribute_holds_what_is_passed_by_name(self):
        for name, made in self.classes().items():
            for value in VALUES:
                error = made(**{ATTRIBUTES[name]: value})
                self.assertIs(getattr(error, ATTRIBUTES[name]), value)

    def test_message_is_a_text_for_every_value(self):
        for made in self.classes().values():
            for value in VALUES:
                self.assertIsInstance(str(made(value)), str)

    def test_errors_are_raised_and_caught_by_name(self):
        for name, made in self.classes().items():
            for caught in (made, errors.WearError, ValueError):
                with self.assertRaises(caught) as held:
                    raise made("word")
                self.assertEqual(getattr(held.exception, ATTRIBUTES[name]), "word")

    def test_value_is_required(self):
        for made in self.classes().values():
            with self.assertRaises(TypeError):
                made()


if __name__ == "__main__":
    unittest.main()
