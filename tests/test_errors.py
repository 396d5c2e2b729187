"""textatrest.errors: the classes, their bases, and how they are made."""

import unittest

from textatrest import errors

NAMES = (
    "OutOfRange",
    "HasLeft",
    "NotAllowed",
    "IsFinal",
    "NoSign",
    "NotKept",
    "NotOpen",
    "LogFull",
    "PowerCut",
    "NoLetter",
)


def classes():
    return [getattr(errors, name) for name in NAMES]


class Bases(unittest.TestCase):
    def test_every_class_is_there_and_defined_there(self):
        for name in ("RestError", *NAMES):
            with self.subTest(name):
                found = getattr(errors, name)
                self.assertIsInstance(found, type)
                self.assertEqual(found.__name__, name)
                self.assertEqual(found.__module__, "textatrest.errors")

    def test_rest_error_is_a_value_error(self):
        self.assertTrue(issubclass(errors.RestError, ValueError))

    def test_each_other_one_is_a_rest_error(self):
        for found in classes():
            with self.subTest(found.__name__):
                self.assertTrue(issubclass(found, errors.RestError))

    def test_none_is_a_subclass_of_another_one_of_the_list(self):
        for one in classes():
            for other in classes():
                with self.subTest(one=one.__name__, other=other.__name__):
                    self.assertEqual(issubclass(one, other), one is other)

    def test_rest_error_is_a_subclass_of_none_of_them(self):
        for found in classes():
            with self.subTest(found.__name__):
                self.assertFalse(issubclass(errors.RestError, found))


class Making(unittest.TestCase):
    def test_out_of_range_keeps_its_name(self):
        for name in ("x", "hands", "at", ""):
            with self.subTest(name):
                self.assertEqual(errors.OutOfRange(name).name, name)

    def test_out_of_range_takes_its_argument_by_its_name(self):
        self.assertEqual(errors.OutOfRange(name="many").name, "many")

    def test_two_of_them_keep_their_own_names(self):
        one, other = errors.OutOfRange("one"), errors.OutOfRange("other")
        self.assertEqual((one.name, other.name), ("one", "other"))

    def test_out_of_range_takes_exactly_one_argument(self):
        self.assertRaises(TypeError, errors.OutOfRange)
        self.assertRaises(TypeError, errors.OutOfRange, "x", "y")

    def test_out_of_range_has_its_own_init(self):
        self.assertIn("__init__", vars(errors.OutOfRange))

    def test_the_others_are_made_with_one_string_and_have_no_fields(self):
        for name in ("RestError", *NAMES[1:]):
            with self.subTest(name):
                made = getattr(errors, name)("a reason")
                self.assertEqual(str(made), "a reason")
                self.assertEqual(vars(made), {})

    def test_each_is_raised_and_caught_by_its_own_name_and_as_rest_error(self):
        for found in classes():
            for caught in (found, errors.RestError, ValueError):
                with self.subTest(found=found.__name__, caught=caught.__name__):
                    with self.assertRaises(caught):
                        raise found("x")

    def test_the_name_can_be_read_where_the_error_is_caught(self):
        with self.assertRaises(errors.OutOfRange) as told:
            raise errors.OutOfRange("bound")
        self.assertEqual(told.exception.name, "bound")


if __name__ == "__main__":
    unittest.main()
