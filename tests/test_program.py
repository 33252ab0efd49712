"""Programs: fields, ==, and what makes a program wrong."""

import random
import unittest
from unittest import mock

from pilereach.errors import InvalidProgram
from pilereach.machine import Machine
from pilereach.program import Program
from tests.programs import copy_of, copy_of_program, deep_expression, deep_statement, random_program

BIG = 10 ** 60
TRUE = ("truth", True)

# For a program with 2 global variables, 2 procedures, and 1 local variable in
# the procedure: statements that name what does not exist, and those that do.
WRONG_VARIABLES = [("global", index) for index in (2, -1, -2, BIG, -BIG)]
WRONG_VARIABLES += [("local", index) for index in (1, -1, 2, BIG, -BIG)]
RIGHT_VARIABLES = [("global", 0), ("global", 1), ("local", 0)]
WRONG = [("call", index) for index in (2, 3, -1, -2, BIG, -BIG)]
WRONG += [("pass", place) for place in (1_000, 1_001, -1, -999, BIG, -BIG)]
WRONG += [("free", variable) for variable in WRONG_VARIABLES]
WRONG += [("set", variable, TRUE) for variable in WRONG_VARIABLES]
RIGHT = [("call", 0), ("call", 1), ("pass", 0), ("pass", 999), ("pass", 500), ("return",)]
RIGHT += [("free", variable) for variable in RIGHT_VARIABLES]
RIGHT += [("set", variable, TRUE) for variable in RIGHT_VARIABLES]


def bodies_with(statement):
    """The statement alone, beside others, and within each body of each statement."""
    yield (statement,)
    yield (("return",), statement)
    yield (statement, ("free", ("global", 0)), ("pass", 3))
    for body in ((statement,), (("return",), statement), (statement, ("return",))):
        yield (("if", TRUE, body, ()),)
        yield (("if", TRUE, (), body),)
        yield (("either", body, ()),)
        yield (("either", (), body),)
        yield (("while", TRUE, body),)
        yield (("repeat", body),)
    for kind in ("if", "either", "while", "repeat"):
        yield (deep_statement(kind, 31, statement),)


def expressions_with(expression):
    """The expression alone, and on each side of each operator."""
    yield expression
    yield ("not", expression)
    for kind in ("and", "or", "same"):
        yield (kind, expression, TRUE)
        yield (kind, TRUE, expression)
        yield (kind, TRUE, ("not", (kind, expression, TRUE)))
        yield deep_expression(kind, 31, expression)
        yield deep_expression(kind, 31, expression, False)
    yield deep_expression("not", 31, expression)


def statements_with(expression):
    """Statements of each form that has an expression."""
    yield ("set", ("global", 0), expression)
    yield ("if", expression, (), ())
    yield ("while", expression, ())


class Alike:
    """An object of another kind with the fields of a program."""

    def __init__(self, program):
        self.global_count = program.global_count
        self.procedures = program.procedures


class FieldsTest(unittest.TestCase):
    body = (("set", ("global", 1), ("of", ("local", 0))), ("call", 0), ("while", TRUE, (("pass", 7),)))

    def test_fields_are_as_passed(self):
        for procedures in ([(1, self.body), (0, ())], ((1, self.body), (0, ()))):
            program = Program(2, procedures)
            self.assertEqual(program.global_count, 2)
            self.assertEqual(program.procedures, ((1, self.body), (0, ())))
            self.assertIs(type(program.procedures), tuple)
            self.assertTrue(all(type(pair) is tuple for pair in program.procedures))

    def test_the_smallest_program(self):
        program = Program(0, [(0, ())])
        self.assertEqual((program.global_count, program.procedures), (0, ((0, ()),)))

    def test_parameters_go_by_name(self):
        program = Program(procedures=[(1, self.body)], global_count=2)
        self.assertEqual((program.global_count, program.procedures), (2, ((1, self.body),)))

    def test_a_list_that_changes_later_does_not_change_the_program(self):
        procedures = [(1, self.body), (0, ())]
        program = Program(2, procedures)
        self.assertEqual(procedures, [(1, self.body), (0, ())])
        procedures[0] = (9, ())
        procedures.append((3, ()))
        self.assertEqual(program.procedures, ((1, self.body), (0, ())))

    def test_what_is_passed_is_not_changed(self):
        chance = random.Random(71)
        for _ in range(50):
            program = random_program(chance)
            procedures = list(program.procedures)
            copies = list(copy_of(program.procedures))
            Program(program.global_count, procedures)
            self.assertEqual(procedures, copies)


class EqualProgramsTest(unittest.TestCase):
    def check(self, a, b, expected):
        self.assertIs(a == b, expected)
        self.assertIs(b == a, expected)
        self.assertIs(a != b, not expected)

    def test_equal_parts(self):
        chance = random.Random(72)
        for _ in range(50):
            program = random_program(chance)
            self.check(program, copy_of_program(program), True)
        self.check(Program(0, [(0, ())]), Program(0, ((0, ()),)), True)

    def test_one_part_that_differs(self):
        body = (("if", ("of", ("global", 0)), (("pass", 1),), (("return",),)), ("call", 1))
        program = Program(1, [(1, body), (0, ())])
        self.check(program, Program(2, [(1, body), (0, ())]), False)
        self.check(program, Program(1, [(2, body), (0, ())]), False)
        self.check(program, Program(1, [(1, body), (1, ())]), False)
        self.check(program, Program(1, [(1, body), (0, ()), (0, ())]), False)
        self.check(program, Program(1, [(0, ()), (1, body)]), False)
        for other in (
            body[::-1],
            body[:1],
            body + body[1:],
            (("if", ("of", ("local", 0)), (("pass", 1),), (("return",),)), ("call", 1)),
            (("if", ("of", ("global", 0)), (("pass", 2),), (("return",),)), ("call", 1)),
            (("if", ("of", ("global", 0)), (("return",),), (("pass", 1),)), ("call", 1)),
            (body[0], ("call", 0)),
        ):
            self.check(program, Program(1, [(1, other), (0, ())]), False)

    def test_objects_of_other_kinds(self):
        program = Program(1, [(0, ())])
        others = (None, 0, 1, "", "p", (1, ((0, ()),)), [], {}, Program, Machine(1, 1, []), Alike(program), object())
        for other in others:
            self.check(program, other, False)
        self.assertIs(program == mock.ANY, False)


class InvalidProgramTest(unittest.TestCase):
    def check(self, index, global_count, procedures):
        for rows in (list(procedures), tuple(procedures)):
            if index is None:
                self.assertEqual(Program(global_count, rows).procedures, tuple(procedures))
            else:
                with self.assertRaises(InvalidProgram) as caught:
                    Program(global_count, rows)
                self.assertIs(type(caught.exception), InvalidProgram)
                self.assertEqual(caught.exception.index, index)

    def check_body(self, right, body):
        """Check a body as that of the first procedure, and of the last one."""
        self.check(None if right else 0, 2, [(1, body), (0, ())])
        self.check(None if right else 1, 2, [(0, ()), (1, body)])

    def test_what_exists(self):
        for statement in RIGHT:
            for body in bodies_with(statement):
                self.check_body(True, body)
        self.check_body(True, ())

    def test_what_does_not_exist(self):
        for statement in WRONG:
            for body in bodies_with(statement):
                self.check_body(False, body)

    def test_variables_in_expressions(self):
        for variable in RIGHT_VARIABLES + WRONG_VARIABLES:
            for expression in expressions_with(("of", variable)):
                for statement in statements_with(expression):
                    self.check_body(variable in RIGHT_VARIABLES, (statement,))
        for statement in statements_with(("same", TRUE, ("not", ("of", ("local", 1))))):
            for body in bodies_with(statement):
                self.check_body(False, body)

    def test_local_variables_are_those_of_the_same_procedure(self):
        body = (("free", ("local", 1)),)
        self.check(None, 0, [(0, ()), (2, body), (0, ())])
        self.check(1, 0, [(2, ()), (1, body), (2, ())])
        self.check(2, 0, [(2, body), (3, body), (0, body)])

    def test_numbers_of_local_variables(self):
        for count in (-1, -2, -BIG):
            self.check(0, 2, [(count, ())])
            self.check(2, 2, [(0, ()), (1, ()), (count, ()), (count, ())])
            self.check(1, 2, [(0, ()), (count, (("return",),))])
        for count in (0, 1, 2, 3, 50):
            self.check(None, 2, [(count, ())])

    def test_the_first_procedure_that_is_not_right(self):
        for first in WRONG[:1] + WRONG[6:8] + WRONG[12:14]:
            for second in WRONG[:1] + WRONG[6:8] + WRONG[12:14]:
                self.check(0, 2, [(1, (first,)), (1, (second,))])
                self.check(1, 2, [(1, ()), (1, (("return",), second))])
            self.check(0, 2, [(-1, ()), (1, (first,))])
            self.check(0, 2, [(1, (first,)), (-1, ())])

    def test_no_procedure_and_negative_numbers_of_global_variables(self):
        for count in (0, 1, 5, -1, BIG):
            self.check(-1, count, [])
        for count in (-1, -2, -BIG):
            self.check(-1, count, [(0, ())])
            self.check(-1, count, [(-1, ())])
            for statement in WRONG:
                self.check(-1, count, [(1, (statement,)), (0, ())])

    def test_programs_somewhat_beyond_the_bounds(self):
        body = tuple(("pass", index) for index in range(60))
        self.check(None, 9, [(9, body + (("free", ("local", 8)), ("free", ("global", 8))))] * 12)
        for depth in (30, 60, 90):
            for kind in ("if", "either", "while", "repeat"):
                statement = deep_statement(kind, depth, ("free", ("local", 0)))
                self.check(None, 0, [(1, (statement,))])
                self.check(0, 0, [(0, (statement,))])
            for kind in ("not", "and", "or", "same"):
                for side in (True, False):
                    statement = ("set", ("local", 0), deep_expression(kind, depth, ("of", ("local", 0)), side))
                    self.check(None, 0, [(1, (statement,))])
                    self.check(0, 0, [(0, (statement,))])


if __name__ == "__main__":
    unittest.main()
