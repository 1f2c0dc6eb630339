"""Tests of handsorted.errors: the classes and the values that they keep."""

import unittest

from handsorted import errors
from tests.samples import any_values

ATTRIBUTES = {
    "BadItem": "value",
    "BadRule": "value",
    "BadMove": "value",
    "BadStep": "value",
    "BadText": "value",
    "BadCommand": "command",
    "UnknownId": "row_id",
    "TakenId": "row_id",
    "TooMany": "count",
    "NothingToDo": "action",
    "UnknownName": "name",
    "NameTaken": "name",
}


class ErrorClasses(unittest.TestCase):

    def test_hand_error_is_a_value_error(self):
        self.assertTrue(issubclass(errors.HandError, ValueError))
        self.assertEqual(errors.HandError.__module__, "handsorted.errors")

    def test_others_are_direct_subclasses_of_hand_error(self):
        for name in ATTRIBUTES:
            with self.subTest(name):
                made = getattr(errors, name)
                self.assertEqual(made.__bases__, (errors.HandError,))
                self.assertEqual(made.__name__, name)
                self.assertEqual(made.__module__, "handsorted.errors")

    def test_no_class_stands_for_two(self):
        classes = [getattr(errors, name) for name in ATTRIBUTES]
        self.assertEqual(len(set(classes)), 12)

    def test_each_is_caught_by_its_own_name_and_by_its_bases(self):
        for name in ATTRIBUTES:
            own = getattr(errors, name)
            for caught in (own, errors.HandError, ValueError):
                with self.subTest(name, caught=caught.__name__):
                    with self.assertRaises(caught):
                        raise own(1)

    def test_none_is_caught_by_the_name_of_another(self):
        for name in ATTRIBUTES:
            for other in ATTRIBUTES:
                if other != name:
                    with self.subTest(name, other=other):
                        self.assertNotIsInstance(getattr(errors, name)(1), getattr(errors, other))


class KeptValues(unittest.TestCase):

    def test_the_very_value_is_kept(self):
        for name, attribute in ATTRIBUTES.items():
            for value in any_values():
                with self.subTest(name, value=value):
                    error = getattr(errors, name)(value)
                    self.assertIs(getattr(error, attribute), value)

    def test_the_value_may_be_passed_by_name(self):
        for name, attribute in ATTRIBUTES.items():
            for value in any_values():
                with self.subTest(name, value=value):
                    error = getattr(errors, name)(**{attribute: value})
                    self.assertIs(getattr(error, attribute), value)

    def test_the_value_is_not_copied(self):
        for name, attribute in ATTRIBUTES.items():
            with self.subTest(name):
                value = [1]
                error = getattr(errors, name)(value)
                value.append([2])
                self.assertEqual(getattr(error, attribute), [1, [2]])

    def test_the_value_is_not_changed(self):
        for name in ATTRIBUTES:
            for value, same in zip(any_values(), any_values()):
                with self.subTest(name, value=value):
                    getattr(errors, name)(value)
                    self.assertEqual(value, same)

    def test_two_errors_keep_a_value_each(self):
        for name, attribute in ATTRIBUTES.items():
            with self.subTest(name):
                first = getattr(errors, name)(1)
                second = getattr(errors, name)(2)
                self.assertEqual(getattr(first, attribute), 1)
                self.assertEqual(getattr(second, attribute), 2)


if __name__ == "__main__":
    unittest.main()
