"""Point 0.3: the error classes."""

import unittest

from harmonicdues import errors
from harmonicdues.errors import DuesError
from tests.things import FIELDS, all_kinds, snapshot


def class_of(name):
    return getattr(errors, name)


def made(name, thing):
    """An error of this name, with this thing as its field if it has one."""
    if FIELDS[name] is None:
        return class_of(name)()
    return class_of(name)(thing)


WITH_FIELD = [name for name in FIELDS if FIELDS[name] is not None]
WITHOUT_FIELD = [name for name in FIELDS if FIELDS[name] is None]


class Classes(unittest.TestCase):
    def test_there_are_28_beside_dues_error(self):
        self.assertEqual(len({class_of(name) for name in FIELDS} - {DuesError}), 28)

    def test_names_and_places(self):
        for name in ["DuesError", *FIELDS]:
            with self.subTest(name):
                self.assertEqual(class_of(name).__name__, name)
                self.assertEqual(class_of(name).__module__, "harmonicdues.errors")

    def test_dues_error_is_directly_under_value_error(self):
        self.assertEqual(DuesError.__bases__, (ValueError,))

    def test_each_one_is_directly_under_dues_error(self):
        for name in FIELDS:
            with self.subTest(name):
                self.assertEqual(class_of(name).__bases__, (DuesError,))

    def test_each_one_is_none_of_the_others(self):
        for name in FIELDS:
            error = made(name, 1)
            self.assertIsInstance(error, DuesError)
            self.assertIsInstance(error, ValueError)
            for other in FIELDS:
                with self.subTest(name, other=other):
                    self.assertEqual(isinstance(error, class_of(other)), name == other)

    def test_each_one_can_be_raised_and_caught(self):
        for name in FIELDS:
            for caught in (class_of(name), DuesError, ValueError):
                error = made(name, 1)
                with self.subTest(name, caught=caught):
                    with self.assertRaises(caught) as context:
                        raise error
                    self.assertIs(context.exception, error)


class Fields(unittest.TestCase):
    def test_a_field_is_the_very_object(self):
        for name in WITH_FIELD:
            for thing in all_kinds():
                with self.subTest(name, kind=type(thing).__name__):
                    self.assertIs(getattr(class_of(name)(thing), FIELDS[name]), thing)

    def test_a_field_is_kept_when_raised(self):
        for name in WITH_FIELD:
            for thing in ([1, [2]], (0, 1, 2), -1, None, True, "people"):
                with self.subTest(name, thing=thing):
                    with self.assertRaises(class_of(name)) as context:
                        raise class_of(name)(thing)
                    self.assertIs(getattr(context.exception, FIELDS[name]), thing)

    def test_making_one_changes_nothing(self):
        for name in WITH_FIELD:
            things = [thing for thing in all_kinds() if type(thing) in (list, dict, bytearray)]
            copies = [snapshot(thing) for thing in things]
            for thing in things:
                class_of(name)(thing)
            self.assertEqual(things, copies)

    def test_no_other_field(self):
        fields = {FIELDS[name] for name in WITH_FIELD}
        for name in FIELDS:
            error = made(name, 1)
            for field in fields:
                with self.subTest(name, field=field):
                    self.assertEqual(hasattr(error, field), field == FIELDS[name])

    def test_a_field_has_to_be_passed(self):
        for name in WITH_FIELD:
            with self.subTest(name):
                self.assertRaises(TypeError, class_of(name))

    def test_two_errors_keep_their_own_fields(self):
        for name in WITH_FIELD:
            one, other = class_of(name)(1), class_of(name)(2)
            with self.subTest(name):
                self.assertEqual((getattr(one, FIELDS[name]), getattr(other, FIELDS[name])), (1, 2))


class Equality(unittest.TestCase):
    def test_an_error_is_equal_to_itself_alone(self):
        for name in FIELDS:
            error = made(name, 1)
            with self.subTest(name):
                self.assertTrue(error == error)
                self.assertFalse(error != error)
                self.assertFalse(error == made(name, 1))
                self.assertTrue(error != made(name, 1))
                for thing in all_kinds():
                    self.assertFalse(error == thing)


if __name__ == "__main__":
    unittest.main()
