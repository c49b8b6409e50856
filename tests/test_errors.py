"""errors.py: [14], and the error classes of [2]."""

import builtins
import inspect
import unittest

from fewstamps import errors

# Name, built-in class, attributes.
CLASSES = (
    ("InOrder", RuntimeError, ()),
    ("NoEvent", LookupError, ("event",)),
    ("NoMessage", LookupError, ("message",)),
    ("NoMachine", LookupError, ("name",)),
    ("NoCounter", LookupError, ("counter",)),
    ("NotAhead", ValueError, ("one", "other")),
    ("NotOpen", ValueError, ("one", "other")),
    ("OutOfOrder", ValueError, ("one", "other")),
    ("Backwards", ValueError, ("one", "other")),
    ("BadLine", ValueError, ("number",)),
    ("BadRow", ValueError, ("number",)),
    ("NotBehind", ValueError, ("counter",)),
    ("SameMachine", ValueError, ("name",)),
    ("Early", ValueError, ("number",)),
)
VALUES = (("a", 0), (("b", 1), ("c", 2)))


class Errors(unittest.TestCase):
    def test_there_are_just_these_classes(self):
        found = [name for name, value in vars(errors).items() if inspect.isclass(value)]
        self.assertEqual(sorted(found), sorted(name for name, _, _ in CLASSES))

    def test_each_is_a_direct_subclass_of_its_builtin_class_alone(self):
        for name, base, _ in CLASSES:
            with self.subTest(name):
                self.assertEqual(getattr(errors, name).__bases__, (base,))
                self.assertIs(getattr(builtins, base.__name__), base)
                self.assertEqual(getattr(errors, name).__module__, "fewstamps.errors")

    def test_none_is_of_another_class_of_the_package(self):
        for name, _, attributes in CLASSES:
            error = getattr(errors, name)(*VALUES[: len(attributes)])
            for other, _, _ in CLASSES:
                with self.subTest(name=name, other=other):
                    self.assertEqual(isinstance(error, getattr(errors, other)), name == other)

    def test_each_stores_its_values_by_position(self):
        for name, _, attributes in CLASSES:
            with self.subTest(name):
                values = VALUES[: len(attributes)]
                error = getattr(errors, name)(*values)
                self.assertEqual(vars(error), dict(zip(attributes, values)))

    def test_each_stores_its_values_by_name(self):
        for name, _, attributes in CLASSES:
            with self.subTest(name):
                values = dict(zip(attributes, VALUES))
                self.assertEqual(vars(getattr(errors, name)(**values)), values)

    def test_each_takes_as_many_values_as_it_stores(self):
        for name, _, attributes in CLASSES:
            with self.subTest(name):
                with self.assertRaises(TypeError):
                    getattr(errors, name)(*range(len(attributes) + 1))
                if attributes:
                    with self.assertRaises(TypeError):
                        getattr(errors, name)(*range(len(attributes) - 1))

    def test_each_can_be_raised_and_caught_by_its_builtin_class(self):
        for name, base, attributes in CLASSES:
            with self.subTest(name):
                with self.assertRaises(base) as caught:
                    raise getattr(errors, name)(*VALUES[: len(attributes)])
                self.assertIs(caught.exception.__class__, getattr(errors, name))


if __name__ == "__main__":
    unittest.main()
