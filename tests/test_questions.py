"""Questions about programs: their answers, papers and stories."""

import random
import unittest

from pilereach.ahead import least
from pilereach.compiled import configuration_of, machine_of, situation_of
from pilereach.endless import endless
from pilereach.judge import takes_least
from pilereach.judgeever import takes_endless
from pilereach.meaning import after, begin
from pilereach.net import Net
from pilereach.program import Program
from pilereach.questions import can_pass, passes_ever, place_marks, place_net, story
from pilereach.spelling import length_of
from tests import checks, meanings
from tests.programs import copy_of, copy_of_program, random_program, situations_from

TRUE, FALSE = ("truth", True), ("truth", False)
T, F = True, False
G, H, X = ("global", 0), ("global", 1), ("local", 0)


def places_at(program, situation):
    """The place that the innermost frame of a situation passes, or None."""
    frames = situation[1]
    statement = meanings.points_of(program)[0][frames[0][0]][0] if frames else None
    return statement[1] if statement and statement[0] == "pass" else None


def circle_through(program, place):
    """Whether a circle of situations passes the place; only for programs without calls."""
    distances = situations_from(program, meanings.begin, meanings.after, 10 ** 9)
    found = {situation: meanings.after(program, situation) for situation in distances}
    for begin_of_circle in found:
        if places_at(program, begin_of_circle) == place:
            seen = set(found[begin_of_circle])
            queue = list(seen)
            for situation in queue:
                fresh = [follower for follower in found[situation] if follower not in seen]
                seen.update(fresh)
                queue.extend(fresh)
            if begin_of_circle in seen:
                return True
    return False


def going_round(program):
    """The program with all that its first procedure does again and again."""
    (count, body), *rest = program.procedures
    return Program(program.global_count, [(count, (("repeat", body),)), *rest])


class QuestionCase(unittest.TestCase):
    def answer(self, ask, program, *rest):
        """The answer to a question; the program must stay as it was."""
        copies = copy_of_program(program)
        found = ask(program, *rest)
        self.assertEqual(program, copies)
        self.assertEqual(ask(copies, *rest), found)
        return found

    def weight(self, program, place):
        """The answer of can_pass, of which the paper and the story are checked."""
        machine, net = machine_of(program), place_net(program, place)
        first = configuration_of(program, begin(program))
        answer = self.answer(can_pass, program, place)
        self.assertEqual(answer, least(machine, net, first))
        self.assertTrue(checks.is_least(machine, net, first, answer))
        self.assertIs(takes_least(machine, net, first, *answer), True)
        weight, paper = answer
        for other in (None, 0, 1) if weight is None else (None, weight - 1, weight + 1):
            self.assertIs(takes_least(machine, net, first, other, paper), other == weight)
        self.check_story(program, place, weight, paper)
        return weight

    def check_story(self, program, place, weight, paper):
        if weight is None:
            for most in (0, 5, 10 ** 9):
                self.assertIsNone(self.answer(story, program, paper, most))
            return
        self.assertEqual(length_of(machine_of(program), paper), weight)
        self.assertIsNone(self.answer(story, program, paper, weight - 1))
        self.assertIsNone(self.answer(story, program, paper, -1))
        if weight > 10_000:
            return
        copies = copy_of(paper)
        told = self.answer(story, program, paper, weight)
        self.assertEqual(paper, copies)
        self.assertEqual(story(program, paper, weight + 7), told)
        self.assertIs(type(told), list)
        self.assertIsNot(story(program, paper, weight), told)
        self.assertEqual(len(told), weight + 1)
        self.assertEqual(told[0], begin(program))
        for situation, follower in zip(told, told[1:]):
            self.assertIn(follower, meanings.after(program, situation))
        self.assertEqual(places_at(program, told[-1]), place)
        self.assertTrue(all(places_at(program, situation) != place for situation in told[:-1]))

    def ever(self, program, place):
        """The verdict of passes_ever, of which the paper is checked."""
        machine, marks = machine_of(program), place_marks(program, place)
        first = configuration_of(program, begin(program))
        answer = self.answer(passes_ever, program, place)
        self.assertEqual(answer, endless(machine, marks, first))
        self.assertTrue(checks.is_endless(machine, marks, first, answer))
        verdict, paper = answer
        self.assertIs(takes_endless(machine, marks, first, verdict, paper), True)
        self.assertIs(takes_endless(machine, marks, first, not verdict, paper), False)
        return verdict


class PlaceTest(QuestionCase):
    def check(self, program, place):
        net = self.answer(place_net, program, place)
        machine = machine_of(program)
        self.assertIsInstance(net, Net)
        self.assertEqual((net.states, net.letters), (machine.states, machine.letters))
        self.assertIs(net.is_plain, True)
        chance = random.Random(place)
        for configuration in checks.configurations(machine.states, machine.letters, 1):
            for height in (0, 0, 1, 2, 5):
                below = tuple(chance.randrange(machine.letters) for _ in range(height))
                state, pile = configuration
                situation = situation_of(program, (state, pile + below))
                self.assertIs(net.accepts((state, pile + below)), places_at(program, situation) == place)
        marks = self.answer(place_marks, program, place)
        self.assertIs(type(marks), tuple)
        expected = [
            index
            for index, step in enumerate(machine.steps)
            if places_at(program, situation_of(program, (step.state, (step.letter,)))) == place
        ]
        self.assertEqual(list(marks), expected)
        return marks

    def test_places_that_stand_once_several_times_and_nowhere(self):
        body = (("pass", 3), ("if", ("of", G), (("pass", 5), ("pass", 3)), (("free", X),)), ("pass", 5), ("call", 1))
        program = Program(1, [(1, body), (2, (("pass", 3), ("pass", 999)))])
        # 0 pass, 1 if, 2 and 3 pass, 4 free, 5 pass, 6 call, 7 end: 16 letters; 8 and 9 pass.
        self.assertEqual(len(self.check(program, 3)), 2 * (2 + 2 + 4))
        self.assertEqual(len(self.check(program, 5)), 2 * (2 + 2))
        self.assertEqual(len(self.check(program, 999)), 2 * 4)
        for place in (0, 1, 4, 998):
            self.assertEqual(self.check(program, place), ())

    def test_programs_by_chance(self):
        chance = random.Random(84)
        for _ in range(40):
            program = random_program(chance)
            for place in range(4):
                self.check(program, place)


class CanPassTest(QuestionCase):
    def test_the_first_statement(self):
        self.assertEqual(self.weight(Program(0, [(0, (("pass", 1),))]), 1), 0)
        self.assertEqual(self.weight(Program(0, [(0, (("pass", 1), ("pass", 2)))]), 2), 1)
        self.assertIsNone(self.weight(Program(0, [(0, (("pass", 1),))]), 2))
        self.assertIsNone(self.weight(Program(0, [(0, ())]), 0))

    def test_conditions_and_choices(self):
        body = (("if", ("of", G), (("pass", 1),), (("pass", 2),)),)
        self.assertIsNone(self.weight(Program(1, [(0, body)]), 1))
        self.assertEqual(self.weight(Program(1, [(0, body)]), 2), 1)
        for first in (("free", G), ("set", G, TRUE)):
            self.assertEqual(self.weight(Program(1, [(0, (first,) + body)]), 1), 2)
        self.assertIsNone(self.weight(Program(1, [(0, (("set", G, TRUE),) + body)]), 2))
        body = (("either", (("pass", 1),), (("pass", 2), ("return",))), ("pass", 3))
        self.assertEqual([self.weight(Program(0, [(0, body)]), place) for place in (1, 2, 3)], [1, 1, 2])
        body = (("while", TRUE, (("pass", 1),)), ("pass", 2))
        self.assertEqual([self.weight(Program(0, [(0, body)]), place) for place in (1, 2)], [1, None])

    def test_a_place_that_only_a_call_of_itself_leads_to(self):
        # The second call sees what the first one set.
        main = (("if", ("of", G), (("pass", 1),), (("set", G, TRUE), ("call", 0), ("pass", 2))),)
        program = Program(1, [(0, main)])
        self.assertEqual(self.weight(program, 1), 4)
        self.assertEqual(self.weight(program, 2), 6)

    def test_a_place_behind_calls_that_must_return(self):
        deep = (("either", (("call", 1), ("call", 1)), (("return",),)),)
        program = Program(0, [(0, (("call", 1), ("pass", 1))), (0, deep)])
        self.assertEqual(self.weight(program, 1), 3)
        endless_call = Program(0, [(0, (("call", 1), ("pass", 1))), (0, (("call", 1),))])
        self.assertIsNone(self.weight(endless_call, 1))

    def test_local_variables_are_each_call_s_own(self):
        # The callee sets its own variable alone.
        program = Program(0, [(1, (("call", 1), ("if", ("of", X), (("pass", 1),), (("pass", 2),)))), (1, (("set", X, TRUE),))])
        self.assertEqual([self.weight(program, place) for place in (1, 2)], [None, 4])

    def test_a_run_that_is_very_long(self):
        # Each procedure calls the one before it twice: 2 ** 6 times the first one.
        rows = [(0, (("call", 1), ("pass", 1)))]
        rows += [(0, (("call", index + 1), ("call", index + 1))) for index in range(1, 5)]
        weight = self.weight(Program(0, rows + [(0, (("pass", 2), ("pass", 2)))]), 1)
        self.assertEqual(weight, 1 + 16 * 3 + 15 * 3)

    def test_against_a_search(self):
        chance = random.Random(85)
        found = {True: 0, False: 0}
        for _ in range(150):
            program = random_program(chance)
            for place in range(3):
                weight = self.weight(program, place)
                found[weight is None] += 1
                # No run with fewer steps leads there, or none with few steps.
                steps = 9 if weight is None else min(weight, 12)
                distances = situations_from(program, meanings.begin, meanings.after, steps)
                there = [many for situation, many in distances.items() if places_at(program, situation) == place]
                if weight is None:
                    self.assertEqual(there, [])
                elif weight <= 12:
                    self.assertEqual(min(there), weight)
        self.assertGreater(found[True], 50)
        self.assertGreater(found[False], 50)


class PassesEverTest(QuestionCase):
    def test_loops(self):
        for loop, expected in ((("while", TRUE), True), (("repeat",), True), (("while", FALSE), False), (("while", ("of", G)), False)):
            program = Program(1, [(0, (loop + ((("pass", 1),),),))])
            self.assertIs(self.ever(program, 1), expected)
            self.assertIs(self.ever(program, 2), False)
        program = Program(1, [(0, (("free", G), ("while", ("of", G), (("pass", 1),)), ("pass", 2)))])
        self.assertIs(self.ever(program, 1), True)
        self.assertIs(self.ever(program, 2), False)

    def test_a_loop_that_may_leave_the_place_out(self):
        body = (("either", (("pass", 1), ("set", G, TRUE)), (("pass", 2),)), ("if", ("of", G), (("return",),), ()))
        program = Program(1, [(0, (("repeat", body),))])
        self.assertIs(self.ever(program, 1), False)
        self.assertIs(self.ever(program, 2), True)

    def test_calls_without_end(self):
        # No situation comes again: the frames pile up.
        program = Program(0, [(0, (("pass", 1), ("call", 0), ("pass", 2)))])
        self.assertIs(self.ever(program, 1), True)
        self.assertIs(self.ever(program, 2), False)

    def test_calls_that_return_within_a_loop(self):
        program = Program(0, [(0, (("repeat", (("call", 1),)),)), (0, (("pass", 1),))])
        self.assertIs(self.ever(program, 1), True)
        program = Program(1, [(0, (("while", ("not", ("of", G)), (("call", 1),)),)), (0, (("pass", 1), ("set", G, TRUE)))])
        self.assertIs(self.ever(program, 1), False)

    def test_against_circles_of_situations(self):
        chance = random.Random(86)
        found = {True: 0, False: 0}
        for _ in range(150):
            program = going_round(random_program(chance, 2, 1, 2))
            if "call" in repr(program.procedures):
                continue
            for place in range(3):
                verdict = self.ever(program, place)
                self.assertIs(verdict, circle_through(program, place))
                found[verdict] += 1
        self.assertGreater(found[True], 15)
        self.assertGreater(found[False], 50)

    def test_programs_by_chance(self):
        chance = random.Random(87)
        verdicts = [self.ever(going_round(random_program(chance)), place) for _ in range(60) for place in range(3)]
        self.assertGreater(verdicts.count(True), 15)
        self.assertGreater(verdicts.count(False), 50)


class LargeTest(QuestionCase):
    def test_programs_with_as_many_variables_as_may_be(self):
        # Three bits count up to 7, three times nested, by calls that must return.
        a, b, c = (("global", index) for index in range(3))
        add = (
            ("if", ("not", ("of", a)), (("set", a, TRUE), ("return",)), ()),
            ("set", a, FALSE),
            ("if", ("not", ("of", b)), (("set", b, TRUE), ("return",)), ()),
            ("set", b, FALSE),
            ("set", c, ("not", ("of", c))),
        )
        full = ("and", ("and", ("of", a), ("of", b)), ("of", c))
        main = (("while", ("not", full), (("call", 1),)), ("pass", 7), ("call", 2), ("pass", 8))
        rows = [(3, main), (0, add), (1, (("while", full, (("call", 1), ("pass", 9))),))]
        program = Program(3, rows)
        self.assertGreater(self.weight(program, 7), 30)
        self.assertGreater(self.weight(program, 8), 40)
        self.assertGreater(self.weight(program, 9), 40)
        self.assertIs(self.ever(program, 7), False)
        self.assertIs(self.ever(program, 9), False)
        # Now it goes round for ever.
        program = Program(3, [(0, (("repeat", main[:2] + (("call", 1),)),))] + rows[1:])
        self.assertIs(self.ever(program, 7), True)
        self.assertIs(self.ever(program, 8), False)


if __name__ == "__main__":
    unittest.main()
