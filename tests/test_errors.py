"""Errors: [24], the first row, and what [2] says of error classes."""

import inspect
import unittest

from eightlots import errors
from tests.helper import Case

CLASSES = {
    "NoLamp": (LookupError, ("lamp",)), "NoNumber": (LookupError, ("number",)),
    "NoWord": (LookupError, ("word",)), "NothingDone": (LookupError, ()),
    "Unfit": (ValueError, ()), "NoPaper": (ValueError, ()), "NoWay": (ValueError, ()),
    "BadLine": (ValueError, ("number",)),
}
VALUES = (-1, 24, 10 ** 30, "bold", "", (1, (2, 3)), None, True)


class Errors(Case):

    def test_each_is_a_direct_subclass_of_its_class_alone(self):
        for name, (base, _) in CLASSES.items():
            self.assertEqual(getattr(errors, name).__bases__, (base,), name)

    def test_each_is_defined_in_the_file(self):
        for name in CLASSES:
            self.assertEqual(getattr(errors, name).__module__, "eightlots.errors")

    def test_there_are_no_others(self):
        found = [name for name, own in vars(errors).items() if inspect.isclass(own)]
        self.assertEqual(sorted(found), sorted(CLASSES))

    def test_constructors_store_their_values(self):
        for name, (_, kept) in CLASSES.items():
            for value in VALUES:
                error = getattr(errors, name)
                by_place, by_name = error(*[value for _ in kept]), error(**{own: value for own in kept})
                self.assert_same(vars(by_place), {own: value for own in kept}, name)
                self.assert_same(vars(by_name), {own: value for own in kept}, name)

    def test_each_can_be_raised_and_has_a_text(self):
        for name, (base, kept) in CLASSES.items():
            error = getattr(errors, name)
            with self.assertRaises(base) as held:
                raise error(*[7 for _ in kept])
            self.assertIs(type(held.exception), error)
            self.assertIsInstance(str(held.exception), str)


if __name__ == "__main__":
    unittest.main()
