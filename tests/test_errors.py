import unittest

from tests.values import NUMBERS, ODD
from whichhouse import errors

GIVEN = (
    "InvalidText", "InvalidHouse", "InvalidMark", "InvalidWord", "InvalidPair", "InvalidWant", "InvalidCount",
    "InvalidLetters", "InvalidName", "InvalidClaim", "InvalidIndex", "InvalidLine", "NotAWeb",
)
# The name of each class, the name of its base, and its attribute.
CLASSES = tuple((name, "WrongValue", "given") for name in GIVEN) + (
    ("InvalidDeeds", "WrongValue", "index"),
    ("UnknownName", "WrongName", "given"),
    ("InUse", "WrongName", "index"),
    ("NoCode", "NoAnswer", None),
    ("TooMany", "NoAnswer", "limit"),
    ("Nowhere", "NoAnswer", None),
    ("NothingToUndo", "NoAnswer", None),
    ("Broken", "NoAnswer", "index"),
)
BASES = (("WrongValue", ValueError), ("WrongName", LookupError), ("NoAnswer", ArithmeticError))
ATTRIBUTES = ("given", "index", "limit")
VALUES = ODD + NUMBERS + ("", "a", "0 a 1 a")


class BasesTest(unittest.TestCase):
    def test_the_bases_stand_straight_under_classes_of_python(self):
        for name, above in BASES:
            with self.subTest(name):
                self.assertEqual(getattr(errors, name).__bases__, (above,))

    def test_each_class_stands_under_one_base_class_alone(self):
        for name, base, _ in CLASSES:
            with self.subTest(name):
                self.assertEqual(getattr(errors, name).__bases__, (getattr(errors, base),))

    def test_no_other_base_catches_it(self):
        for name, base, attribute in CLASSES:
            for other, above in BASES:
                with self.subTest(name, base=other):
                    raised = getattr(errors, name)(*((1,) if attribute else ()))
                    self.assertEqual(isinstance(raised, getattr(errors, other)), other == base)
                    self.assertEqual(isinstance(raised, above), other == base)

    def test_there_are_these_classes_and_no_others(self):
        told = {name for name, value in vars(errors).items() if isinstance(value, type)}
        self.assertEqual(told, {row[0] for row in CLASSES} | {row[0] for row in BASES})

    def test_they_are_defined_in_this_file(self):
        for name in [row[0] for row in CLASSES] + [row[0] for row in BASES]:
            with self.subTest(name):
                self.assertEqual(getattr(errors, name).__module__, "whichhouse.errors")


class AttributesTest(unittest.TestCase):
    def test_made_by_place_and_by_name_with_any_value(self):
        for name, _, attribute in CLASSES:
            if attribute is None:
                continue
            made = getattr(errors, name)
            for value in VALUES:
                with self.subTest(name, value=repr(value)):
                    self.assertIs(getattr(made(value), attribute), value)
                    self.assertIs(getattr(made(**{attribute: value}), attribute), value)

    def test_the_attribute_is_there_when_it_is_caught(self):
        for name, base, attribute in CLASSES:
            if attribute is None:
                continue
            with self.subTest(name):
                value = [name]
                with self.assertRaises(getattr(errors, base)) as caught:
                    raise getattr(errors, name)(value)
                self.assertIs(getattr(caught.exception, attribute), value)

    def test_there_is_no_other_attribute(self):
        for name, _, attribute in CLASSES:
            raised = getattr(errors, name)(*((1,) if attribute else ()))
            for other in ATTRIBUTES:
                with self.subTest(name, attribute=other):
                    self.assertEqual(hasattr(raised, other), other == attribute)

    def test_classes_with_an_attribute_take_just_that(self):
        for name, _, attribute in CLASSES:
            if attribute is None:
                continue
            made = getattr(errors, name)
            with self.subTest(name):
                self.assertRaises(TypeError, made)
                self.assertRaises(TypeError, made, 1, 2)
                self.assertRaises(TypeError, made, wrong=1)

    def test_classes_without_an_attribute_take_nothing(self):
        for name in [row[0] for row in CLASSES if row[2] is None] + [row[0] for row in BASES]:
            made = getattr(errors, name)
            with self.subTest(name):
                self.assertIsInstance(made(), Exception)
                self.assertRaises(TypeError, made, 1)
                self.assertRaises(TypeError, made, given=1)

    def test_two_errors_are_equal_only_if_they_are_one(self):
        for name, _, attribute in CLASSES:
            with self.subTest(name):
                one, two = [getattr(errors, name)(*((1,) if attribute else ())) for _ in range(2)]
                self.assertTrue(one == one)
                self.assertFalse(one == two)
                self.assertTrue(one != two)
                self.assertTrue(bool(one))


if __name__ == "__main__":
    unittest.main()
