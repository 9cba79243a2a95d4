"""[1] and the interface: the errors."""

import unittest

from reachrows import errors

NAMES = (
    "NoPart", "NoBook", "NoMachine", "NoEven", "NoForms", "NoRow", "NoPlaced", "NoSize", "NoOrder", "NoRoom",
    "NoIslands", "NoGoal", "NoEdits", "NoNumber", "NoCells", "NoWrites", "NoDoor", "NoTwin", "NoLive", "NoChange",
    "TooMany",
)


class TestErrors(unittest.TestCase):

    def test_reach_error_is_a_value_error_and_nothing_else(self):
        self.assertEqual(errors.ReachError.__bases__, (ValueError,))

    def test_each_error_is_directly_derived_from_reach_error_alone(self):
        for name in NAMES:
            with self.subTest(name):
                self.assertEqual(getattr(errors, name).__bases__, (errors.ReachError,))

    def test_each_error_is_a_class_of_its_own(self):
        kinds = [getattr(errors, name) for name in NAMES + ("ReachError",)]
        self.assertEqual(len(set(kinds)), 22)

    def test_each_error_is_defined_under_its_name_in_the_file(self):
        for name in NAMES + ("ReachError",):
            with self.subTest(name):
                self.assertEqual(getattr(errors, name).__name__, name)
                self.assertEqual(getattr(errors, name).__module__, "reachrows.errors")

    def test_each_error_is_made_from_a_text(self):
        for name in NAMES + ("ReachError",):
            with self.subTest(name):
                error = getattr(errors, name)("why it is so")
                self.assertIs(type(error), getattr(errors, name))
                self.assertEqual(str(error), "why it is so")

    def test_each_error_is_caught_by_its_own_name_and_by_those_above_it(self):
        for name in NAMES:
            for kind in (getattr(errors, name), errors.ReachError, ValueError):
                with self.subTest(name, kind=kind):
                    with self.assertRaises(kind):
                        raise getattr(errors, name)("why")

    def test_no_error_is_caught_by_the_name_of_another_one(self):
        for name in NAMES:
            for other in NAMES:
                if name != other:
                    with self.subTest(name, other=other):
                        self.assertFalse(issubclass(getattr(errors, name), getattr(errors, other)))


if __name__ == "__main__":
    unittest.main()
