"""nearfields/errors.py: the classes of the interface and how they stand to each other."""

import unittest

from nearfields import errors

KINDS = ("BadCount", "BadPoint", "Twice", "InRow", "NoPoint", "NoSide", "Bent")


class Errors(unittest.TestCase):
    def test_field_error_stands_right_under_value_error(self):
        self.assertEqual(errors.FieldError.__bases__, (ValueError,))
        self.assertEqual(errors.FieldError.__module__, "nearfields.errors")

    def test_each_refusal_stands_right_under_field_error(self):
        for name in KINDS:
            with self.subTest(name=name):
                kind = getattr(errors, name)
                self.assertEqual(kind.__name__, name)
                self.assertEqual(kind.__module__, "nearfields.errors")
                self.assertEqual(kind.__bases__, (errors.FieldError,))

    def test_no_refusal_is_taken_by_another_one(self):
        for name in KINDS:
            for other in KINDS:
                with self.subTest(name=name, other=other):
                    taken = issubclass(getattr(errors, name), getattr(errors, other))
                    self.assertEqual(taken, name == other)

    def test_each_refusal_is_taken_by_field_error_and_value_error(self):
        for name in KINDS:
            for taker in (errors.FieldError, ValueError):
                with self.subTest(name=name, taker=taker.__name__):
                    with self.assertRaises(taker):
                        raise getattr(errors, name)("why")


if __name__ == "__main__":
    unittest.main()
