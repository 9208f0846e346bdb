import unittest

from glimpserounds import errors
from tests.support import NO_INTEGERS, NO_STRINGS

BASES = {"WrongValue": ValueError, "WrongName": LookupError, "NoAnswer": ArithmeticError}
WITH_GIVEN = (
    "NotASign", "NotARecord", "InvalidText", "InvalidPace", "InvalidWidth", "InvalidPlace", "InvalidLength",
    "InvalidTime", "InvalidWindow", "InvalidName", "InvalidClaim", "InvalidIndex", "InvalidLine",
)
WITH_INDEX = ("InvalidDead", "InvalidPaces", "InvalidGroups", "InvalidTimes", "InvalidDeeds")
# Each class with its base and its attribute.
CLASSES = {
    **{name: ("WrongValue", "given") for name in WITH_GIVEN},
    **{name: ("WrongValue", "index") for name in WITH_INDEX},
    "UnknownName": ("WrongName", "given"),
    "InUse": ("WrongName", "index"),
    "TooMany": ("NoAnswer", "most"),
    "OtherKind": ("NoAnswer", "given"),
    "Broken": ("NoAnswer", "index"),
    "NothingToUndo": ("NoAnswer", None),
}
WITH_ATTRIBUTE = {name: told for name, told in CLASSES.items() if told[1] is not None}
WITHOUT = (*BASES, "NothingToUndo")
VALUES = [*NO_INTEGERS, *NO_STRINGS, 0, -1, 12, 10 ** 39, "text", ("a", (1, [2])), [1, [2]]]


def error_class(name):
    return getattr(errors, name)


class ErrorsTest(unittest.TestCase):
    def test_each_class_is_defined_here_under_its_name(self):
        for name in (*BASES, *CLASSES):
            with self.subTest(name):
                self.assertEqual(error_class(name).__name__, name)
                self.assertEqual(error_class(name).__module__, "glimpserounds.errors")

    def test_each_base_has_its_base_in_python_alone(self):
        for name, python in BASES.items():
            with self.subTest(name):
                self.assertEqual(error_class(name).__bases__, (python,))

    def test_each_class_belongs_to_its_base_alone(self):
        for name, (base, attribute) in CLASSES.items():
            with self.subTest(name):
                above = [other for other in (*BASES, *CLASSES) if issubclass(error_class(name), error_class(other))]
                self.assertEqual(sorted(above), sorted([name, base]))
                for python in BASES.values():
                    self.assertEqual(issubclass(error_class(name), python), python is BASES[base])

    def test_the_attribute_is_kept_by_position_and_by_name(self):
        for name, (base, attribute) in WITH_ATTRIBUTE.items():
            for value in VALUES:
                with self.subTest(name, value=value):
                    self.assertIs(getattr(error_class(name)(value), attribute), value)
                    self.assertIs(getattr(error_class(name)(**{attribute: value}), attribute), value)

    def test_each_class_can_be_raised_and_caught_by_its_base_and_by_pythons(self):
        for name, (base, attribute) in WITH_ATTRIBUTE.items():
            for caught in (error_class(name), error_class(base), BASES[base]):
                with self.subTest(name, caught=caught):
                    with self.assertRaises(caught) as context:
                        raise error_class(name)(7)
                    self.assertEqual(getattr(context.exception, attribute), 7)
        for caught in (errors.NothingToUndo, errors.NoAnswer, ArithmeticError):
            with self.assertRaises(caught):
                raise errors.NothingToUndo()

    def test_those_without_attributes_take_none(self):
        for name in WITHOUT:
            with self.subTest(name):
                self.assertIs(type(error_class(name)()), error_class(name))
                for value in (None, 1, "text", ()):
                    with self.assertRaises(TypeError):
                        error_class(name)(value)
                for attribute in ("given", "index", "most"):
                    with self.assertRaises(TypeError):
                        error_class(name)(**{attribute: 1})


if __name__ == "__main__":
    unittest.main()
