"""Programs that are read from texts, and where the faults of texts are."""

import random
import unittest

from pilereach.errors import InvalidText
from pilereach.printer import write_program
from pilereach.program import Program
from pilereach.reader import read_program
from tests import grammar
from tests.programs import deep_expression, deep_statement, random_program
from tests.texts import random_text

TRUE, FALSE = ("truth", True), ("truth", False)
A, B, C = (("of", ("global", index)) for index in range(3))
RESERVED = "var proc call if else either or while repeat return pass any true false not and".split()


class ReaderCase(unittest.TestCase):
    def check(self, text, global_count, *procedures):
        """Check the program of a text."""
        program = read_program(text)
        self.assertEqual(program, Program(global_count, procedures))
        self.assertEqual(read_program(text), program)
        self.assertIsNone(grammar.fault_of(text))

    def body(self, statements, *expected):
        """Check the statements of a procedure with the variables a, b, c and x, y."""
        text = "var a; var b; var c; proc p { var x; var y; " + statements + " }"
        self.check(text, 3, (2, expected))

    def value(self, expression, expected):
        """Check an expression, in each place where one may stand."""
        for before, behind in (("", ""), (" ", " "), ("\n", "\n"), ("(", ")"), ("( ( ", ") )")):
            inner = before + expression + behind
            self.body(f"x = {inner};", ("set", ("local", 0), expected))
            self.body(f"x={inner};", ("set", ("local", 0), expected))
            self.body(f"if({inner}){{}}", ("if", expected, (), ()))
            self.body(f"while ( {inner} ) {{ }}", ("while", expected, ()))

    def fault(self, text, mark="^"):
        """Check that the fault is where the mark stands, which itself is taken out."""
        where = text.index(mark)
        text = text.replace(mark, "", 1)
        self.fault_at(text, where)

    def fault_at(self, text, where):
        with self.assertRaises(InvalidText) as caught:
            read_program(text)
        self.assertIs(type(caught.exception), InvalidText)
        self.assertEqual(caught.exception.where, where, repr(text))
        self.assertEqual(grammar.fault_of(text), where, repr(text))


class GrammarTest(ReaderCase):
    def test_the_smallest_program(self):
        self.check("proc p{}", 0, (0, ()))
        self.check("proc p { }", 0, (0, ()))

    def test_declarations(self):
        self.check("var a; proc p { }", 1, (0, ()))
        self.check("var a;var b;proc p{var c;var d;var e;}proc q{}proc r{var c;}", 2, (3, ()), (0, ()), (1, ()))

    def test_statements_without_bodies(self):
        self.body("")
        self.body("a = any;", ("free", ("global", 0)))
        self.body("y = any;", ("free", ("local", 1)))
        self.body("c = x;", ("set", ("global", 2), ("of", ("local", 0))))
        self.body("return;", ("return",))
        self.body("call p;", ("call", 0))
        for place in (0, 1, 9, 10, 99, 100, 101, 999):
            self.body(f"pass {place};", ("pass", place))
            self.body(f"pass\n{place} ;", ("pass", place))
        self.body("pass 1;pass 2;return;", ("pass", 1), ("pass", 2), ("return",))

    def test_statements_with_bodies(self):
        one, two = ("pass", 1), ("pass", 2)
        self.body("if (a) { pass 1; }", ("if", A, (one,), ()))
        self.body("if (a) { pass 1; } else { pass 2; }", ("if", A, (one,), (two,)))
        self.body("if (a) { pass 1; } else { }", ("if", A, (one,), ()))
        self.body("if (a) { } else { pass 2; pass 1; }", ("if", A, (), (two, one)))
        self.body("if (a) { }", ("if", A, (), ()))
        self.body("either { pass 1; } or { pass 2; }", ("either", (one,), (two,)))
        self.body("either { } or { }", ("either", (), ()))
        self.body("while (a) { pass 1; pass 2; }", ("while", A, (one, two)))
        self.body("while (a) { }", ("while", A, ()))
        self.body("repeat { pass 1; }", ("repeat", (one,)))
        self.body("repeat { }", ("repeat", ()))

    def test_bodies_within_bodies(self):
        one = ("pass", 1)
        self.body(
            "if (a) { if (b) { pass 1; } else { } } else { either { } or { repeat { } } } return;",
            ("if", A, (("if", B, (one,), ()),), (("either", (), (("repeat", ()),)),)),
            ("return",),
        )
        # An else belongs to the if that ends just before it.
        self.body("if (a) { if (b) { } } else { pass 1; }", ("if", A, (("if", B, (), ()),), (one,)))
        self.body("if (a) { if (b) { } else { pass 1; } }", ("if", A, (("if", B, (), (one,)),), ()))
        self.body("while (a) { while (b) { } pass 1; }", ("while", A, (("while", B, ()), one)))
        for text, expected in (
            ("if (a) { pass 1; } else { }", ("if", A, (one,), ())),
            ("either { } or { pass 1; }", ("either", (), (one,))),
            ("while (a) { pass 1; }", ("while", A, (one,))),
            ("repeat { pass 1; }", ("repeat", (one,))),
        ):
            self.body(f"{text} {text}", expected, expected)
            self.body(f"repeat {{ {text} pass 1; }} {text}", ("repeat", (expected, one)), expected)
            self.body(f"if (b) {{ {text} }} else {{ {text} pass 1; }}", ("if", B, (expected,), (expected, one)))
            self.body(f"either {{ pass 1; {text} }} or {{ {text} }}", ("either", (one, expected), (expected,)))

    def test_calls_of_procedures_that_follow(self):
        self.check(
            "proc a { call c; call a; } proc b { if (true) { call c; } } proc c { call b; }",
            0,
            (0, (("call", 2), ("call", 0))),
            (0, (("if", TRUE, (("call", 2),), ()),)),
            (0, (("call", 1),)),
        )

    def test_expressions(self):
        x = ("of", ("local", 0))
        self.value("true", TRUE)
        self.value("false", FALSE)
        self.value("a", A)
        self.value("x", x)
        self.value("not a", ("not", A))
        self.value("not not x", ("not", ("not", x)))
        self.value("a and b", ("and", A, B))
        self.value("a or b", ("or", A, B))
        self.value("a == b", ("same", A, B))

    def test_association(self):
        self.value("a or b or c", ("or", ("or", A, B), C))
        self.value("a and b and c", ("and", ("and", A, B), C))
        self.value("a or (b or c)", ("or", A, ("or", B, C)))
        self.value("a and (b and c)", ("and", A, ("and", B, C)))
        self.value("(a == b) == c", ("same", ("same", A, B), C))
        self.value("a == (b == c)", ("same", A, ("same", B, C)))
        self.value("a or b or c or a", ("or", ("or", ("or", A, B), C), A))

    def test_operators_beside_one_another(self):
        self.value("a or b and c", ("or", A, ("and", B, C)))
        self.value("a and b or c", ("or", ("and", A, B), C))
        self.value("(a or b) and c", ("and", ("or", A, B), C))
        self.value("a and (b or c)", ("and", A, ("or", B, C)))
        self.value("a and b == c", ("and", A, ("same", B, C)))
        self.value("a == b and c", ("and", ("same", A, B), C))
        self.value("a == (b and c)", ("same", A, ("and", B, C)))
        self.value("a or b == c or a", ("or", ("or", A, ("same", B, C)), A))
        self.value("a == b and b == c and c == a", ("and", ("and", ("same", A, B), ("same", B, C)), ("same", C, A)))
        self.value("not a == b", ("same", ("not", A), B))
        self.value("a == not b", ("same", A, ("not", B)))
        self.value("not a == not b", ("same", ("not", A), ("not", B)))
        self.value("not (a == b)", ("not", ("same", A, B)))
        self.value("not a and b", ("and", ("not", A), B))
        self.value("not (a and b)", ("not", ("and", A, B)))
        self.value("a and not b or not c", ("or", ("and", A, ("not", B)), ("not", C)))
        self.value("not not (not a or b)", ("not", ("not", ("or", ("not", A), B))))
        self.value("a and b or b and c or c and a", ("or", ("or", ("and", A, B), ("and", B, C)), ("and", C, A)))

    def test_needless_brackets(self):
        self.value("(a)", A)
        self.value("(((true)))", TRUE)
        self.value("(not (a))", ("not", A))
        self.value("not(a)", ("not", A))
        self.value("not(not(a))", ("not", ("not", A)))
        self.value("((a) or ((b)))", ("or", A, B))
        self.value("(a or b) or c", ("or", ("or", A, B), C))
        self.value("(a and b) or (c)", ("or", ("and", A, B), C))
        self.value("(a)==(b)", ("same", A, B))
        self.value("(a)and(b)or(c)", ("or", ("and", A, B), C))


class TokenTest(ReaderCase):
    def test_spaces_and_newlines_nowhere_and_everywhere(self):
        program = Program(
            1,
            [
                (1, (("set", ("local", 0), ("same", A, ("not", ("or", A, TRUE)))), ("pass", 10), ("call", 1))),
                (0, (("if", A, (("return",),), (("free", ("global", 0)),)),)),
            ],
        )
        tokens = write_program(program).split(" ")
        tight = "var g0;proc p0{var x0;x0=g0==not(g0 or true);pass 10;call p1;}proc p1{if(g0){return;}else{g0=any;}}"
        for text in (tight, " ".join(tokens), "\n".join(tokens), " \n\n ".join([""] + tokens + [""]), "  " + tight + "\n"):
            self.check(text, 1, *program.procedures)
        for token in tokens:
            self.assertIn(token, tight)

    def test_names_that_begin_like_reserved_words(self):
        for word in RESERVED:
            for name in (word + "s", word + "0", word + word, "x" + word, word[:-1] or "o"):
                if name not in RESERVED:
                    text = f"var {name};proc {name}{{var {name};{name}={name}==not {name};call {name};}}"
                    value = ("of", ("local", 0))
                    expected = (("set", ("local", 0), ("same", value, ("not", value))), ("call", 0))
                    self.check(text, 1, (1, expected))
            self.fault(f"var ^{word}; proc p {{ }}")
            self.fault(f"proc ^{word} {{ }}")
            self.fault(f"proc p {{ var ^{word}; }}")
            self.fault(f"proc p {{ call ^{word}; }}")
            if word in ("true", "false"):
                self.check(f"var a; proc p {{ a = {word}; }}", 1, (0, (("set", ("global", 0), ("truth", word == "true")),)))
            elif word not in ("any", "not"):
                self.fault(f"var a; proc p {{ a = ^{word}; }}")

    def test_names_with_digits_and_of_any_length(self):
        for name in ("a", "z", "a0", "a00", "a0123456789", "q" * 300, "a1b2c3"):
            self.check(f"proc {name}{{call {name};}}", 0, (0, (("call", 0),)))

    def test_a_name_goes_on_as_far_as_it_can(self):
        self.fault("proc p { ^pass7; }")
        self.check("var pass7; proc p { pass7 = any; pass 7; }", 1, (0, (("free", ("global", 0)), ("pass", 7))))
        self.fault("var a; proc p { a = ^nota; }")
        self.fault("var a; proc p { a = a ^ora; }")
        self.fault("proc p { return ^return; }")
        self.fault("^procp { }")

    def test_a_number_ends_where_a_letter_begins(self):
        self.fault("proc p { pass 7^x; }")
        self.fault("proc p { pass 0^x; }")
        self.fault("proc p { pass 123^x4; }")

    def test_signs_of_two_characters_are_taken_first(self):
        self.fault("var a; proc p { a ^== a; }")
        self.fault("var a; proc p { a ^=== a; }")
        self.fault("var a; proc p { a = a ==^= a; }")
        self.fault("var a; proc p { a = a ==^== a; }")
        self.fault("var a; proc p { a = a ^= a; }")
        self.fault("var a; proc p { a = a ^= = a; }")

    def test_characters_that_are_no_tokens(self):
        others = [chr(number) for number in range(32, 127)]
        others = [sign for sign in others if not sign.islower() and sign not in "0123456789{}();= "] + ["\t"]
        for sign in others:
            self.fault_at(sign + "proc p { }", 0)
            self.fault_at("proc " + sign + " { }", 5)
            self.fault_at("proc p { }" + sign, 10)
            self.fault_at("proc p { } " + sign + " proc", 11)
            self.fault_at("proc p" + sign + "q { }", 6)
            self.fault_at("var a; proc p { a = a " + sign + " a; }", 22)
            self.fault_at("proc p { pass 1" + sign + "; }", 15)

    def test_numbers_that_are_none(self):
        for number in ("00", "01", "007", "000", "0000", "1000", "9999", "12345", "0" * 50, "9" * 50):
            self.fault(f"proc p {{ pass ^{number}; }}")
            self.fault(f"proc p {{ pass ^{number}")
            self.fault(f"proc p {{ pass ^{number}x; }}")
            self.fault(f"proc ^{number} {{ }}")
        for number in ("0", "1", "10", "100", "999"):
            self.check(f"proc p{{pass {number};}}", 0, (0, (("pass", int(number)),)))
        self.fault("proc p { pass 1 ^0; }")


class FaultTest(ReaderCase):
    def test_texts_that_end_too_early(self):
        self.fault_at("", 0)
        self.fault_at(" \n ", 3)
        text = "var a; proc p { var x; x = not ( a == true ) and a or any1; }".split(" ")
        for many in range(len(text) - 1):
            for gap in ("", " ", "\n\n"):
                before = " ".join(text[:many]) + gap
                self.fault_at(before, len(before))
        for statement in (
            "return", "pass", "pass 1", "call", "call p", "a", "a =", "a = any", "a = a", "a = not", "a = (", "a = (a",
            "a = (a)", "a = a or", "a = a and", "a = a ==", "if", "if (", "if (a", "if (a)", "if (a) {", "if (a) { }",
            "if (a) { } else", "if (a) { } else {", "if (a) { } else { }", "either", "either {", "either { }",
            "either { } or", "either { } or {", "either { } or { }", "while", "while (", "while (a", "while (a)",
            "while (a) {", "while (a) { }", "repeat", "repeat {", "repeat { }", "repeat { repeat { }",
        ):
            text = "var a; proc p { " + statement
            self.fault_at(text, len(text))
            self.fault_at(text + "\n ", len(text) + 2)

    def test_tokens_that_are_not_possible(self):
        for text in (
            "^;", "^{ }", "^a", "^1", "^call p;", "^true", "var ^; proc p { }", "var ^1; proc p { }", "var a ^proc p { }",
            "var a^, b; proc p { }", "var a ^b; proc p { }", "var a ^= true;",
            "var a; ^a = any;", "proc ^{ }", "proc ^1 { }", "proc p ^( ) { }", "proc p ^; { }", "proc p ^q { }",
            "proc p { } ^}", "proc p { } ^var a;", "proc p { } ^return;", "proc p { } ^;", "proc p { } ^q",
            "proc p { ^; }", "proc p { ^{ } }", "proc p { ^proc q { } }", "proc p { return; ^var a; }",
            "proc p { repeat { ^var a; } }", "proc p { ^else { } }", "proc p { ^or { } }", "proc p { ^any = any; }",
            "proc p { ^1; }", "proc p { ^true; }", "proc p { ^not; }", "proc p { ^( }", "proc p { ^= }",
            "proc p { pass ^p; }", "proc p { pass ^; }", "proc p { pass ^(1); }", "proc p { pass 1 ^2; }",
            "proc p { return ^1; }", "proc p { return ^}", "proc p { call ^1; }", "proc p { call p ^( ); }",
            "proc p { call p ^}", "proc p { call ^; }",
        ):
            self.fault(text)

    def test_statements_that_go_wrong(self):
        for statement in (
            "a ^;", "a ^a", "a ^( a );", "a ^any;", "a = ^;", "a = ^= a;", "a = ^1;", "a = ^)", "a = ^}", "a = ^pass 1;",
            "a = ^or a;", "a = ^and a;", "a = ^== a;", "a = a ^a;", "a = a ^not a;", "a = a ^true;", "a = a ^( a );",
            "a = a ^);", "a = a or ^;", "a = a or ^or a;", "a = a and ^or a;", "a = a and ^== a;", "a = a == ^== a;",
            "a = a == ^or a;", "a = a == a ^== a;", "a = a == not a ^== a;", "a = a == (a) ^== a;", "a = a == not (a) ^== a;", "a = a == not not ((a)) ^== a;", "a = not (a) == a ^== a;",
            "a = a or a == a ^== a;", "a = (a == a ^== a);", "a = (a ^;", "a = (a ^}", "a = (^);", "a = (a or ^);",
            "a = (a) ^);", "a = ((a) ^;", "a = not ^;", "a = not ^or a;", "a = not ^);", "a = not ^any;", "a = (^any);",
            "a = any ^or a;", "a = any ^any;", "a = any ^);", "a = any ^}", "a = a ^any;", "a = a ^= a;", "a = a ^}",
            "if ^a { }", "if ^{ }", "if (^) { }", "if (^any) { }", "if (a ^{ }", "if (a ^; { }", "if (a) ^a = any;",
            "if (a) ^;", "if (a) ^else { }", "if (a) ^) { }", "if (a ^= a) { }", "if (a) { ^)",
            "if (a) { } else ^if (a) { }", "if (a) { } else ^;", "if (a) { } else { } ^else { }",
            "if (a) { } ^or { }", "if (a) { } ^;", "if (a) { return; ^else { } }", "either ^( a ) { } or { }",
            "either { } ^either", "either { } ^else { }", "either { } ^;", "either { } ^}", "either { } or ^;",
            "either { } or { } ^or { }", "either { ^or { }", "either ^;", "while ^a { }", "while (a ^{ }", "while (^) { }",
            "while (a) ^;", "while (a) { } ^else { }", "while (a) { } ^or { }", "repeat ^( a ) { }", "repeat ^;",
            "repeat { } ^;", "repeat { } ^or { }",
        ):
            self.fault("var a; proc p { " + statement + " }")
            self.fault("var a; proc p { return; repeat { " + statement + " } }")

    def test_names_that_are_declared_twice(self):
        self.fault("var a; var ^a; proc p { }")
        self.fault("var a; var b; var ^a; var b; proc p { }")
        self.fault("proc p { } proc ^p { }")
        self.fault("proc p { } proc q { } proc ^p { } proc q { }")
        self.fault("proc p { var a; var ^a; }")
        self.fault("var a; proc p { var a; var b; var ^a; }")
        self.fault("proc p { var a; } proc q { var a; var ^a; }")
        # The kinds do not disturb one another, nor do procedures.
        self.check("var a; var p; proc p { var a; var p; } proc a { var a; }", 2, (2, ()), (1, ()))

    def test_names_that_are_not_declared(self):
        for statement in (
            "^b = any;", "^b = a;", "a = ^b;", "a = a or not (a == ^b);", "if (^b) { }", "while (a and ^b) { }",
            "repeat { ^b = any; }", "either { } or { a = ^b; }", "if (a) { } else { ^b = c; }",
            "^p = any;", "a = ^p;", "a = ^b or b;", "^x = any;", "a = ^y;",
        ):
            self.fault("var a; proc p { " + statement + " } proc q { var x; var b; }")
            self.fault("var a; proc q { var x; var b; } proc p { " + statement + " }")
        self.fault("proc p { ^a = any; } proc q { var a; }")
        self.fault("proc p { ^q = any; } proc q { }")

    def test_a_local_variable_hides_a_global_one(self):
        text = "var a; var b; proc p { var b; a = b; b = a; } proc q { a = b; } proc r { var a; a = b; }"
        first = (("set", ("global", 0), ("of", ("local", 0))), ("set", ("local", 0), ("of", ("global", 0))))
        second = (("set", ("global", 0), ("of", ("global", 1))),)
        third = (("set", ("local", 0), ("of", ("global", 1))),)
        self.check(text, 2, (1, first), (0, second), (1, third))

    def test_calls_of_procedures_that_do_not_exist(self):
        self.fault("proc p { call ^q; }")
        self.fault("var q; proc p { var q; call ^q; }")
        self.fault("proc p { call p; repeat { call ^q; } call r; }")
        self.fault("proc p { call q; call ^s; } proc q { call r; } proc r { call t; }")

    def test_which_fault_counts(self):
        # A call of what does not exist counts only if all else is right.
        self.fault("proc p { call q; } ^;")
        self.fault("proc p { call q; ^a = any; }")
        self.fault("proc p { call q; } proc ^p { }")
        self.fault("proc p { call q; ^var a; }")
        self.fault_at("proc p { call q;", 16)
        self.fault("proc p { call q; } ^~")
        # Of all others the first one from the left.
        self.fault("var a; var ^a; ~ proc")
        self.fault("proc p { ^a = = b; }")
        self.fault("proc p { ^a ~ b; }")
        self.fault("proc p { ^a = b; var c; } proc p { }")
        self.fault("var a; proc p { a = ^b or ; }")
        self.fault("var a; proc p { a = a or ^; } proc p { b = any; }")
        self.fault("var a; proc p { a = a ^~ b; }")
        self.fault("var a; proc p { a = (^b; }")
        self.fault("proc p { var x; var ^x }")
        self.fault("proc p { var x; var x1 ^var x; }")
        self.fault("proc p { } proc ^p")
        self.fault("proc p { } proc q { pass ^00; } proc p { }")
        self.fault("var a; var ^a")
        self.fault("proc p { if (^b")


class SizeTest(ReaderCase):
    def test_deep_texts(self):
        for depth in (29, 30, 31, 60, 400):
            value = deep_expression("not", depth, A)
            program = read_program("var a; proc p { a = " + "not " * depth + "a; }")
            self.assertEqual(self.depth_of(program.procedures[0][1][0][2]), depth)
            if depth < 100:
                self.assertEqual(program.procedures[0][1][0][2], value)
            self.check("var a; proc p { a = " + "(" * depth + "a" + ")" * depth + "; }", 1, (0, (("set", ("global", 0), A),)))
            text = "var a; proc p { a = " + "(not " * depth + "a" + ")" * depth + "; }"
            self.assertEqual(self.depth_of(read_program(text).procedures[0][1][0][2]), depth)
            text = "proc p { " + "repeat { " * depth + "return; " + "} " * depth + "}"
            self.assertEqual(len(read_program(text).procedures), 1)
            self.fault_at(text + "}", len(text))
            self.fault_at("var a; proc p { a = " + "(" * depth + "a" + ")" * depth + ")", 21 + 2 * depth)
            self.fault_at("var a; proc p { a = " + "(" * depth + "a" + ")" * (depth - 1) + "; }", 20 + 2 * depth)

    def depth_of(self, expression):
        depth = 0
        while expression[0] == "not":
            expression = expression[1]
            depth += 1
        return depth

    def test_deep_bodies_and_associations(self):
        for depth in (29, 30, 31, 60, 90):
            for kind in ("if", "either", "while", "repeat"):
                program = Program(0, [(0, (deep_statement(kind, depth), ("pass", 1)))])
                self.assertEqual(read_program(write_program(program)), program)
            for kind in ("or", "and"):
                text = f"var a; proc p {{ a = {f' {kind} '.join(['a'] * (depth + 1))}; }}"
                expected = deep_expression(kind, depth, A)
                self.check(text, 1, (0, (("set", ("global", 0), expected),)))

    def test_many_statements_variables_and_procedures(self):
        names = [f"v{index}" for index in range(12)]
        text = "".join(f"var {name};" for name in names)
        for name in names:
            text += f"proc {name}{{" + "".join(f"var {local};" for local in names[:9])
            text += "".join(f"{other}=any;call {other};" for other in names) + "}"
        variables = [("local", index) for index in range(9)] + [("global", index) for index in range(9, 12)]
        body = tuple(part for index, variable in enumerate(variables) for part in (("free", variable), ("call", index)))
        self.assertLess(len(text), 4_000)
        self.check(text, 12, *[(9, body)] * 12)

    def test_long_texts(self):
        text = "proc p{" + "pass 1;" * 570
        self.check(text + "}", 0, (0, (("pass", 1),) * 570))
        self.fault_at(text + "~}", len(text))
        self.fault_at(" " * 4_000, 4_000)
        self.fault_at("~" * 4_000, 0)
        self.fault_at("}" * 4_000, 0)
        self.fault_at("var a; proc p { a = a; " + "(" * 3_900, 23)


class ChanceTest(ReaderCase):
    def test_texts_of_programs(self):
        chance = random.Random(91)
        for _ in range(300):
            program = random_program(chance, 3, 3, 3, chance.randint(0, 3))
            for _ in range(3):
                text = random_text(chance, program)
                self.assertEqual(read_program(text), program, text)

    def test_changed_texts(self):
        chance = random.Random(92)
        others = RESERVED + list("{}();=~A\t\n ") + ["==", "x0", "x1", "g0", "g1", "p0", "p1", "0", "12", "999", "1000", "00"]
        right = 0
        for _ in range(150):
            program = random_program(chance, depth=chance.randint(0, 3))
            tokens = random_text(chance, program) if chance.random() < 0.3 else write_program(program).split(" ")
            gap = "" if isinstance(tokens, str) else " "
            for _ in range(20):
                changed = list(tokens)
                for _ in range(chance.randint(1, 3)):
                    self.change(chance, changed, others)
                text = gap.join(changed)
                where = grammar.fault_of(text)
                if where is None:
                    read_program(text)
                    right += 1
                else:
                    with self.assertRaises(InvalidText) as caught:
                        read_program(text)
                    self.assertEqual(caught.exception.where, where, repr(text))
        self.assertGreater(right, 40)
        self.assertLess(right, 1_000)

    def change(self, chance, tokens, others):
        """Take out, put in or exchange a token, or end the text."""
        at = chance.randrange(len(tokens)) if tokens else 0
        way = chance.random()
        if way < 0.3:
            del tokens[at:at + 1]
        elif way < 0.6:
            tokens.insert(at, chance.choice(others))
        elif way < 0.9:
            tokens[at:at + 1] = [chance.choice(others)]
        else:
            del tokens[at:]


if __name__ == "__main__":
    unittest.main()
