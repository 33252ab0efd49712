"""The errors: their classes and fields."""

import unittest

from pilereach.errors import (
    InvalidMachine,
    InvalidNet,
    InvalidProgram,
    InvalidText,
    Mismatch,
    NoStep,
    NotPlain,
    PileError,
)

WITHOUT_FIELDS = (InvalidMachine, InvalidNet, Mismatch, NotPlain)
WITH_A_FIELD = ((NoStep, "index"), (InvalidProgram, "index"), (InvalidText, "where"))
NUMBERS = (0, 1, -1, 17, 4_000, 10 ** 40, -(10 ** 40))


class ErrorsTest(unittest.TestCase):
    def test_the_base_class_derives_from_value_error(self):
        self.assertEqual(PileError.__bases__, (ValueError,))

    def test_each_other_class_is_a_direct_subclass_of_the_base_class(self):
        for kind in WITHOUT_FIELDS + tuple(kind for kind, _ in WITH_A_FIELD):
            with self.subTest(kind=kind.__name__):
                self.assertEqual(kind.__bases__, (PileError,))

    def test_no_class_of_errors_is_another_one(self):
        kinds = {*WITHOUT_FIELDS, *(kind for kind, _ in WITH_A_FIELD), PileError}
        self.assertEqual(len(kinds), 8)

    def test_errors_without_fields_have_none(self):
        for kind in WITHOUT_FIELDS:
            with self.subTest(kind=kind.__name__):
                self.assertEqual(vars(kind()), {})
                self.assertEqual(vars(kind("words")), {})

    def test_the_field_has_the_value_that_is_passed(self):
        for kind, field in WITH_A_FIELD:
            for number in NUMBERS:
                with self.subTest(kind=kind.__name__, number=number):
                    self.assertEqual(vars(kind(number)), {field: number})
                    self.assertEqual(vars(kind(**{field: number})), {field: number})

    def test_the_field_may_be_larger_than_what_python_writes_out(self):
        for kind, field in WITH_A_FIELD:
            for number in (10 ** 5_000, -(10 ** 5_000)):
                error = kind(number)
                self.assertTrue(getattr(error, field) == number)
                self.assertIsInstance(str(error), str)
                self.assertIsInstance(repr(error), str)

    def test_errors_with_a_field_need_it(self):
        for kind, _ in WITH_A_FIELD:
            with self.subTest(kind=kind.__name__):
                self.assertRaises(TypeError, kind)

    def test_each_error_is_caught_as_one_of_the_program(self):
        for error in [kind() for kind in WITHOUT_FIELDS] + [kind(3) for kind, _ in WITH_A_FIELD]:
            with self.subTest(error=repr(error)):
                with self.assertRaises(PileError) as caught:
                    raise error
                self.assertIs(caught.exception, error)
                self.assertIsInstance(str(error), str)


if __name__ == "__main__":
    unittest.main()
