"""Texts that are written of programs."""

import random
import unittest

from pilereach.printer import write_program
from pilereach.program import Program
from pilereach.reader import read_program
from tests.programs import copy_of_program, deep_expression, deep_statement, random_program
from tests.texts import plain_names, program_tokens

TRUE, FALSE = ("truth", True), ("truth", False)
A, B, C = (("of", ("global", index)) for index in range(3))


class PrinterCase(unittest.TestCase):
    def check(self, program, *expected):
        copies = copy_of_program(program)
        text = write_program(program)
        self.assertIs(type(text), str)
        self.assertEqual(program, copies)
        self.assertEqual(write_program(copies), text)
        self.assertEqual(read_program(text), program)
        self.assertEqual(text, " ".join(program_tokens(program, plain_names(program))))
        for other in expected:
            self.assertEqual(text, other)

    def body(self, expected, *statements):
        """Check the statements of a procedure with 3 global variables and 1 local one."""
        before = "var g0 ; var g1 ; var g2 ; proc p0 { var x0 ; "
        behind = " }" if expected else "}"
        self.check(Program(3, [(1, statements)]), before + expected + behind)

    def value(self, expected, expression):
        """Check an expression, in each place where one may stand."""
        self.body(f"g0 = {expected} ;", ("set", ("global", 0), expression))
        self.body(f"if ( {expected} ) {{ }}", ("if", expression, (), ()))
        self.body(f"while ( {expected} ) {{ }}", ("while", expression, ()))


class StatementTest(PrinterCase):
    def test_declarations_and_procedures(self):
        self.check(Program(0, [(0, ())]), "proc p0 { }")
        self.check(Program(1, [(0, ())]), "var g0 ; proc p0 { }")
        self.check(
            Program(2, [(0, ()), (3, (("return",),)), (1, ())]),
            "var g0 ; var g1 ; proc p0 { } proc p1 { var x0 ; var x1 ; var x2 ; return ; } proc p2 { var x0 ; }",
        )

    def test_statements_without_bodies(self):
        self.body("")
        self.body("x0 = true ;", ("set", ("local", 0), TRUE))
        self.body("g2 = false ;", ("set", ("global", 2), FALSE))
        self.body("x0 = g1 ;", ("set", ("local", 0), B))
        self.body("g1 = x0 ;", ("set", ("global", 1), ("of", ("local", 0))))
        self.body("g0 = any ; x0 = any ;", ("free", ("global", 0)), ("free", ("local", 0)))
        self.body("call p0 ; return ;", ("call", 0), ("return",))
        for place in (0, 9, 10, 999):
            self.body(f"pass {place} ;", ("pass", place))
        self.check(Program(0, [(0, (("call", 1),)), (0, ())]), "proc p0 { call p1 ; } proc p1 { }")

    def test_statements_with_bodies(self):
        one, two = ("pass", 1), ("pass", 2)
        self.body("if ( g0 ) { } else { pass 1 ; }", ("if", A, (), (one,)))
        self.body("if ( g0 ) { pass 1 ; pass 2 ; }", ("if", A, (one, two), ()))
        self.body("if ( g0 ) { pass 1 ; } else { pass 2 ; }", ("if", A, (one,), (two,)))
        self.body("if ( g0 ) { }", ("if", A, (), ()))
        self.body("either { pass 1 ; } or { pass 2 ; }", ("either", (one,), (two,)))
        self.body("either { } or { }", ("either", (), ()))
        self.body("while ( g0 ) { pass 1 ; } pass 2 ;", ("while", A, (one,)), two)
        self.body("repeat { pass 1 ; } repeat { }", ("repeat", (one,)), ("repeat", ()))
        self.body("if ( g0 ) { if ( g1 ) { } } else { pass 1 ; }", ("if", A, (("if", B, (), ()),), (one,)))
        self.body("if ( g0 ) { if ( g1 ) { } else { pass 1 ; } }", ("if", A, (("if", B, (), (one,)),), ()))
        self.body(
            "either { repeat { either { } or { while ( true ) { } } } } or { if ( g0 ) { return ; } }",
            ("either", (("repeat", (("either", (), (("while", TRUE, ()),)),)),), (("if", A, (("return",),), ()),)),
        )


class ExpressionTest(PrinterCase):
    def test_without_operators(self):
        self.value("true", TRUE)
        self.value("false", FALSE)
        self.value("g2", C)
        self.value("x0", ("of", ("local", 0)))

    def test_each_operator_with_each_operand(self):
        operands = {
            "truth": (TRUE, "true"),
            "of": (C, "g2"),
            "not": (("not", C), "not g2"),
            "and": (("and", B, C), "g1 and g2"),
            "or": (("or", B, C), "g1 or g2"),
            "same": (("same", B, C), "g1 == g2"),
        }
        # The kinds that need brackets: on the left, on the right.
        needed = {
            "or": ((), ("or",)),
            "and": (("or",), ("or", "and")),
            "same": (("or", "and", "same"), ("or", "and", "same")),
        }
        for kind, (operand, text) in operands.items():
            inner = f"( {text} )" if kind in ("or", "and", "same") else text
            self.value(f"not {inner}", ("not", operand))
            for operator, sign in (("or", "or"), ("and", "and"), ("same", "==")):
                left, right = needed[operator]
                inner = f"( {text} )" if kind in left else text
                self.value(f"{inner} {sign} g0", (operator, operand, A))
                inner = f"( {text} )" if kind in right else text
                self.value(f"g0 {sign} {inner}", (operator, A, operand))

    def test_larger_expressions(self):
        self.value("g0 or g1 or g2", ("or", ("or", A, B), C))
        self.value("g0 or ( g1 or g2 )", ("or", A, ("or", B, C)))
        self.value("g0 and g1 and g2", ("and", ("and", A, B), C))
        self.value("g0 and ( g1 and g2 )", ("and", A, ("and", B, C)))
        self.value("not not g0", ("not", ("not", A)))
        self.value("not ( not g0 == g1 )", ("not", ("same", ("not", A), B)))
        self.value("g0 and g1 or g1 and g2", ("or", ("and", A, B), ("and", B, C)))
        self.value("( g0 or g1 ) and ( g1 or g2 )", ("and", ("or", A, B), ("or", B, C)))
        self.value("( g0 or ( g1 or g2 ) ) == ( g0 == g1 )", ("same", ("or", A, ("or", B, C)), ("same", A, B)))

    def test_brackets_stand_only_where_they_are_needed(self):
        chance = random.Random(93)
        found = 0
        for _ in range(500):
            program = random_program(chance, 3, 1, 1, 1)
            tokens = write_program(program).split(" ")
            for index, token in enumerate(tokens):
                if token == "(" and tokens[index - 1] not in ("if", "while"):
                    found += 1
                    close = self.closing(tokens, index)
                    text = " ".join(tokens[:index] + tokens[index + 1:close] + tokens[close + 1:])
                    try:
                        self.assertNotEqual(read_program(text), program, text)
                    except ValueError:
                        pass
        self.assertGreater(found, 30)

    def closing(self, tokens, index):
        """The index of the bracket that closes this one."""
        depth = 0
        while True:
            depth += {"(": 1, ")": -1}.get(tokens[index], 0)
            if depth == 0:
                return index
            index += 1


class SizeTest(PrinterCase):
    def test_deep_programs(self):
        for depth in (29, 30, 31, 60, 90):
            for kind in ("if", "either", "while", "repeat"):
                self.check(Program(0, [(0, (deep_statement(kind, depth), ("pass", 1)))]))
            for kind in ("not", "and", "or", "same"):
                for side in (True, False):
                    self.check(Program(1, [(0, (("set", ("global", 0), deep_expression(kind, depth, A, side)),))]))

    def test_many_statements_variables_and_procedures(self):
        body = tuple(("free", (scope, index)) for scope in ("global", "local") for index in range(12))
        self.check(Program(12, [(12, body + (("call", index),)) for index in range(12)]))

    def test_programs_by_chance(self):
        chance = random.Random(94)
        for _ in range(400):
            self.check(random_program(chance, 3, 3, 3, chance.randint(0, 4)))


if __name__ == "__main__":
    unittest.main()
