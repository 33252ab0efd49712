"""Points of programs, and the situations that follow one another."""

import itertools
import random
import unittest

from pilereach.meaning import after, begin
from pilereach.program import Program
from tests import meanings
from tests.programs import copy_of, copy_of_program, deep_expression, deep_statement, random_program

TRUE, FALSE = ("truth", True), ("truth", False)
T, F = True, False


def values(count):
    return list(itertools.product((False, True), repeat=count))


class MeaningCase(unittest.TestCase):
    def after(self, program, situation):
        """What follows; checks that nothing is changed, and that equal calls give equal lists."""
        copies = (copy_of_program(program), copy_of(situation))
        found = after(program, situation)
        self.assertEqual((program, situation), copies)
        self.assertIs(type(found), list)
        again = after(*copies)
        self.assertEqual(again, found)
        self.assertIsNot(again, found)
        for shared, frames in found:
            self.assertIs(type(shared), tuple)
            self.assertIs(type(frames), tuple)
            for point, own in frames:
                self.assertIs(type(own), tuple)
        self.assertEqual(meanings.after(program, situation), found)
        return found

    def goals(self, body, point, shared=(), own=()):
        """The points that follow a point of procedure 0, below which is another frame."""
        program = Program(len(shared), [(len(own), body)])
        below = (0, own)
        found = self.after(program, (shared, ((point, own), below)))
        for values_after, frames in found:
            self.assertEqual(values_after, shared)
            self.assertEqual(frames[1:], (below,))
            self.assertEqual(frames[0][1], own)
        return [frames[0][0] for _, frames in found]


class BeginTest(MeaningCase):
    def check(self, program, *expected):
        copies = copy_of_program(program)
        situation = begin(program)
        self.assertEqual(program, copies)
        self.assertEqual(begin(copies), situation)
        self.assertEqual(meanings.begin(program), situation)
        for other in expected:
            self.assertEqual(situation, other)

    def test_the_entry_of_the_first_procedure(self):
        self.check(Program(0, [(0, ())]), ((), ((0, ()),)))
        self.check(Program(2, [(3, ())]), ((F, F), ((0, (F, F, F)),)))
        self.check(Program(1, [(1, (("return",), ("return",))), (2, ())]), ((F,), ((0, (F,)),)))
        self.check(Program(1, [(0, ()), (2, (("return",),))]), ((F,), ((0, ()),)))
        chance = random.Random(73)
        for _ in range(100):
            self.check(random_program(chance))

    def test_values_are_truth_values(self):
        shared, frames = begin(Program(2, [(2, ())]))
        self.assertTrue(all(value is False for value in shared + frames[0][1]))


class PointsTest(MeaningCase):
    """The points of points 40 and 41."""

    def test_one_statement_after_another(self):
        body = (("pass", 0), ("pass", 1), ("pass", 2))
        for point in range(3):
            self.assertEqual(self.goals(body, point), [point + 1])

    def test_procedures_one_after_another(self):
        program = Program(0, [(0, (("call", 2),)), (0, ()), (1, (("pass", 1),)), (0, (("call", 1), ("call", 3)))])
        # The ends are 1, 2, 4 and 7.
        self.assertEqual(self.after(program, ((), ((0, ()),))), [((), ((3, (F,)), (1, ())))])
        self.assertEqual(self.after(program, ((), ((3, (T,)), (1, ())))), [((), ((4, (T,)), (1, ())))])
        self.assertEqual(self.after(program, ((), ((4, (T,)), (1, ())))), [((), ((1, ()),))])
        self.assertEqual(self.after(program, ((), ((1, ()),))), [((), ())])
        self.assertEqual(self.after(program, ((), ((5, ()),))), [((), ((2, ()), (6, ())))])
        self.assertEqual(self.after(program, ((), ((6, ()),))), [((), ((5, ()), (7, ())))])
        self.assertEqual(self.after(program, ((), ((2, ()), (7, ())))), [((), ((7, ()),))])

    def test_bodies_of_if(self):
        # 0 if, 1 and 2 in the first body, 3 in the second one, 4 behind, 5 the end.
        for condition, entry in ((TRUE, 1), (FALSE, 3)):
            body = (("if", condition, (("pass", 0), ("pass", 0)), (("pass", 0),)), ("pass", 0))
            self.assertEqual([self.goals(body, point) for point in range(5)], [[entry], [2], [4], [4], [5]])
            # The same without anything behind.
            self.assertEqual([self.goals(body[:1], point) for point in range(4)], [[entry], [2], [4], [4]])

    def test_bodies_of_either(self):
        body = (("either", (("pass", 0), ("pass", 0)), (("pass", 0),)), ("pass", 0))
        self.assertEqual([self.goals(body, point) for point in range(5)], [[1, 3], [2], [4], [4], [5]])
        self.assertEqual([self.goals(body[:1], point) for point in range(4)], [[1, 3], [2], [4], [4]])

    def test_bodies_of_while(self):
        for condition, goal in ((TRUE, 1), (FALSE, 3)):
            body = (("while", condition, (("pass", 0), ("pass", 0))), ("pass", 0))
            self.assertEqual([self.goals(body, point) for point in range(4)], [[goal], [2], [0], [4]])
            self.assertEqual([self.goals(body[:1], point) for point in range(3)], [[goal], [2], [0]])

    def test_bodies_of_repeat(self):
        body = (("repeat", (("pass", 0), ("pass", 0))), ("pass", 0))
        self.assertEqual([self.goals(body, point) for point in range(4)], [[1, 3], [2], [0], [4]])
        self.assertEqual([self.goals(body[:1], point) for point in range(3)], [[1, 3], [2], [0]])

    def test_empty_bodies(self):
        full = (("pass", 0),)
        for behind in ((), (("pass", 0),)):
            self.assertEqual(self.goals((("if", TRUE, (), ()),) + behind, 0), [1])
            self.assertEqual(self.goals((("if", FALSE, (), ()),) + behind, 0), [1])
            self.assertEqual(self.goals((("if", TRUE, (), full),) + behind, 0), [2])
            self.assertEqual(self.goals((("if", FALSE, (), full),) + behind, 0), [1])
            self.assertEqual(self.goals((("if", TRUE, full, ()),) + behind, 0), [1])
            self.assertEqual(self.goals((("if", FALSE, full, ()),) + behind, 0), [2])
            self.assertEqual(self.goals((("either", (), ()),) + behind, 0), [1, 1])
            self.assertEqual(self.goals((("either", full, ()),) + behind, 0), [1, 2])
            self.assertEqual(self.goals((("either", (), full),) + behind, 0), [2, 1])
            self.assertEqual(self.goals((("while", TRUE, ()),) + behind, 0), [0])
            self.assertEqual(self.goals((("while", FALSE, ()),) + behind, 0), [1])
            self.assertEqual(self.goals((("repeat", ()),) + behind, 0), [0, 1])

    def test_the_last_statement_of_a_body_within_bodies(self):
        full = (("pass", 0),)
        # 0 the outer one, 1 the inner one, 2 and perhaps 3 within that one.
        for outer, tail in (("while", 0), ("repeat", 0), ("if", 3), ("either", 3)):
            for inner, expected in (("while", [2, 1]), ("repeat", [2, 1]), ("if", [2, None]), ("either", [2, None])):
                statement = self.around(outer, (self.around(inner, full),))
                goals = [self.goals((statement,), point) for point in range(3)]
                self.assertEqual(goals[0][0], 1)
                self.assertEqual(goals[1][0], 2)
                # Behind the innermost statement.
                self.assertEqual(goals[2], [expected[1] if expected[1] is not None else tail])
                if inner in ("repeat", "either"):
                    self.assertEqual(goals[1][1:], [tail])

    def around(self, kind, body):
        """A statement of a kind with this body."""
        rows = {"if": (TRUE, body, ()), "either": (body, ()), "while": (TRUE, body), "repeat": (body,)}
        return (kind, *rows[kind])

    def test_a_larger_body(self):
        body = (
            ("either", (("while", FALSE, (("pass", 0), ("repeat", ()))),), (("if", FALSE, (("pass", 0),), ()), ("return",))),
            ("repeat", (("if", TRUE, (), (("pass", 0),)), ("either", (), (("pass", 0),)))),
        )
        expected = [
            [1, 4],  # 0 either
            [7],  # 1 while, from which the last point of the first body leads on
            [3],  # 2 pass
            [3, 1],  # 3 repeat with an empty body, the last one of the while
            [6],  # 4 if, of which the second body is empty
            [6],  # 5 pass
            None,  # 6 return
            [8, 12],  # 7 repeat
            [10],  # 8 if, of which the first body is empty
            [10],  # 9 pass
            [7, 11],  # 10 either, the last one of the repeat
            [7],  # 11 pass
        ]
        for point, goals in enumerate(expected):
            if goals is not None:
                self.assertEqual(self.goals(body, point), goals)


class StatementTest(MeaningCase):
    def test_no_frame(self):
        for shared in values(2):
            self.assertEqual(self.after(Program(2, [(0, ())]), (shared, ())), [])

    def test_the_end_of_a_procedure_and_return(self):
        for body, points in (((), (0,)), ((("return",),), (0, 1)), ((("return",), ("pass", 0)), (0, 2))):
            program = Program(1, [(1, body)])
            for point in points:
                for shared in values(1):
                    for below in ((), ((0, (T,)),), ((0, (F,)), (0, (T,)))):
                        situation = (shared, ((point, (T,)),) + below)
                        self.assertEqual(self.after(program, situation), [(shared, below)])

    def test_return_within_loops(self):
        for kind in (("while", TRUE), ("repeat",)):
            body = (kind + ((("pass", 0), ("return",), ("pass", 1)),), ("pass", 2))
            program = Program(0, [(0, body)])
            self.assertEqual(self.after(program, ((), ((2, ()),))), [((), ())])
            self.assertEqual(self.after(program, ((), ((2, ()), (4, ())))), [((), ((4, ()),))])

    def test_set(self):
        body = (("set", ("global", 1), ("of", ("local", 0))), ("set", ("local", 1), ("not", ("of", ("global", 0)))))
        program = Program(2, [(2, body)])
        below = ((2, (T, F)),)
        for (a, b), (x, y) in itertools.product(values(2), values(2)):
            found = self.after(program, ((a, b), ((0, (x, y)),) + below))
            self.assertEqual(found, [((a, x), ((1, (x, y)),) + below)])
            found = self.after(program, ((a, b), ((1, (x, y)),) + below))
            self.assertEqual(found, [((a, b), ((2, (x, not a)),) + below)])

    def test_set_of_a_variable_that_its_own_expression_names(self):
        for variable in (("global", 0), ("local", 0)):
            program = Program(1, [(1, (("set", variable, ("not", ("of", variable))),))])
            for value in (T, F):
                found = self.after(program, ((value,), ((0, (value,)),)))
                expected = ((not value,), ((1, (value,)),)) if variable[0] == "global" else ((value,), ((1, (not value,)),))
                self.assertEqual(found, [expected])

    def test_free(self):
        program = Program(2, [(2, (("free", ("global", 1)), ("free", ("local", 0))))])
        below = ((2, (T, F)),)
        for (a, b), (x, y) in itertools.product(values(2), values(2)):
            found = self.after(program, ((a, b), ((0, (x, y)),) + below))
            self.assertEqual(found, [((a, value), ((1, (x, y)),) + below) for value in (F, T)])
            found = self.after(program, ((a, b), ((1, (x, y)),) + below))
            self.assertEqual(found, [((a, b), ((2, (value, y)),) + below) for value in (F, T)])

    def test_call(self):
        program = Program(1, [(1, (("call", 1), ("call", 0))), (2, (("call", 1),))])
        # 0 and 1, the end 2; 3, the end 4.
        for shared, own in itertools.product(values(1), values(1)):
            found = self.after(program, (shared, ((0, own), (4, (T, T)))))
            self.assertEqual(found, [(shared, ((3, (F, F)), (1, own), (4, (T, T))))])
            found = self.after(program, (shared, ((1, own),)))
            self.assertEqual(found, [(shared, ((0, (F,)), (2, own)))])
        for own in values(2):
            found = self.after(program, ((T,), ((3, own),)))
            self.assertEqual(found, [((T,), ((3, (F, F)), (4, own)))])

    def test_calls_as_the_last_statement_of_a_body(self):
        program = Program(0, [(0, (("while", TRUE, (("call", 1),)),)), (0, ())])
        self.assertEqual(self.after(program, ((), ((1, ()),))), [((), ((3, ()), (0, ())))])
        program = Program(0, [(0, (("if", TRUE, (("call", 0),), ()), ("pass", 1)))])
        self.assertEqual(self.after(program, ((), ((1, ()),))), [((), ((0, ()), (2, ())))])

    def test_conditions(self):
        variables = (("global", 0), ("global", 1), ("local", 0), ("local", 1))
        for index, variable in enumerate(variables):
            of = ("of", variable)
            for statement, goals in (
                (("if", of, (("pass", 0),), (("pass", 1),)), (1, 2)),
                (("while", of, (("pass", 0),)), (1, 2)),
            ):
                for own in values(2):
                    for shared in values(2):
                        holds = (shared + own)[index]
                        self.assertEqual(self.goals((statement,), 0, shared, own), [goals[0 if holds else 1]])

    def test_two_situations_that_are_equal(self):
        program = Program(0, [(0, (("either", (), ()), ("repeat", ())))])
        self.assertEqual(self.after(program, ((), ((0, ()),))), [((), ((1, ()),))] * 2)
        program = Program(0, [(0, (("either", (), (("pass", 0),)), ("pass", 1)))])
        self.assertEqual(self.after(program, ((), ((0, ()),))), [((), ((2, ()),)), ((), ((1, ()),))])
        program = Program(0, [(0, (("repeat", (("either", (), ()),)),))])
        self.assertEqual(self.after(program, ((), ((1, ()),))), [((), ((0, ()),))] * 2)

    def test_pass(self):
        for place in (0, 5, 999):
            self.assertEqual(self.goals((("pass", place), ("pass", place)), 0, (T, F), (F, T)), [1])


class ExpressionTest(MeaningCase):
    def value(self, expression, shared, own):
        """The value, by way of if and of set."""
        goals = self.goals((("if", expression, (("pass", 0),), ()),), 0, shared, own)
        program = Program(len(shared), [(len(own), (("set", ("global", 0), expression),))])
        (after_set, _), = self.after(program, (shared, ((0, own),)))
        self.assertIs(after_set[0], goals == [1])
        self.assertEqual(after_set[1:], shared[1:])
        return after_set[0]

    def test_each_form(self):
        a, b = ("of", ("global", 0)), ("of", ("local", 1))
        for shared, own in itertools.product(values(2), values(2)):
            x, y = shared[0], own[1]
            for expression, expected in (
                (TRUE, True),
                (FALSE, False),
                (a, x),
                (b, y),
                (("not", a), not x),
                (("not", ("not", b)), y),
                (("and", a, b), x and y),
                (("or", a, b), x or y),
                (("same", a, b), x == y),
                (("and", ("or", a, b), ("not", ("same", b, a))), x != y),
                (("or", ("and", a, b), ("and", ("not", a), ("not", b))), x == y),
                (("same", ("same", a, b), ("or", a, FALSE)), y),
                (("and", ("not", a), b), y and not x),
                (("or", a, ("not", b)), x or not y),
            ):
                self.assertIs(self.value(expression, shared, own), expected, expression)

    def test_deep_expressions(self):
        for depth in (29, 30, 31, 60, 90):
            for kind in ("not", "and", "or", "same"):
                for side in (True, False):
                    for leaf in (TRUE, FALSE):
                        expression = deep_expression(kind, depth, leaf, side)
                        expected = leaf[1]
                        if kind == "not" and depth % 2 or kind == "same" and depth % 2 and not leaf[1]:
                            expected = not leaf[1]
                        self.assertIs(self.value(expression, (F,), ()), expected)


class SizeTest(MeaningCase):
    def test_deep_bodies(self):
        for kind in ("if", "either", "while", "repeat"):
            for depth in (29, 30, 31, 60, 90):
                body = (deep_statement(kind, depth, ("pass", 0)), ("pass", 1))
                tail = depth + 1 if kind in ("if", "either") else depth - 1
                self.assertEqual(self.goals(body, depth), [tail])
                self.assertEqual(self.goals(body, depth + 1), [depth + 2])

    def test_many_frames(self):
        program = Program(1, [(2, (("call", 0), ("return",)))])
        situation = begin(program)
        for many in range(1, 320):
            self.assertEqual(len(situation[1]), many)
            situation, = self.after(program, situation) if many < 20 else after(program, situation)
        self.assertEqual(situation, ((F,), ((0, (F, F)),) + ((1, (F, F)),) * 319))

    def test_many_variables_and_procedures(self):
        body = tuple(("set", ("local", index), ("of", ("global", index))) for index in range(9))
        program = Program(9, [(9, body)] * 10)
        shared = (T, F) * 4 + (T,)
        situation = (shared, ((50, (F,) * 9),))
        for index in range(9):
            situation, = self.after(program, situation)
            self.assertEqual(situation, (shared, ((51 + index, shared[:index + 1] + (F,) * (8 - index)),)))

    def test_programs_by_chance(self):
        chance = random.Random(74)
        for _ in range(300):
            program = random_program(chance, depth=chance.randint(0, 3))
            situations = [begin(program)]
            for _ in range(15):
                situations.extend(self.after(program, chance.choice(situations)))


if __name__ == "__main__":
    unittest.main()
