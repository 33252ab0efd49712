"""Programs as machines, and situations as configurations."""

import random
import unittest

from pilereach.compiled import configuration_of, machine_of, situation_of
from pilereach.machine import Machine, Step
from pilereach.meaning import after, begin
from pilereach.program import Program
from pilereach.runs import possible, take
from tests import meanings
from tests.programs import copy_of, copy_of_program, random_program

TRUE = ("truth", True)
T, F = True, False


def large_program():
    """As many variables, procedures and statements as a program may have: 8 states and 95 letters."""
    first = tuple(("set", ("local", index % 3), ("of", ("global", (index + 1) % 3))) for index in range(4))
    rows = [(3, first), (2, (("free", ("local", 1)), ("call", 0))), (1, (("free", ("global", 2)), ("call", 3)))]
    rows += [(1, (("call", 4),)), (0, tuple(("pass", index) for index in range(29))), (0, (("call", 5), ("call", 1)))]
    return Program(3, rows)


class CompiledCase(unittest.TestCase):
    def machine(self, program):
        copies = copy_of_program(program)
        machine = machine_of(program)
        self.assertIsInstance(machine, Machine)
        self.assertEqual(program, copies)
        self.assertEqual(machine_of(copies), machine)
        return machine

    def rows(self, program):
        return [
            (step.state, step.letter, step.goal, step.laid, step.weight) for step in self.machine(program).steps
        ]


class MachineTest(CompiledCase):
    def test_without_variables(self):
        program = Program(0, [(0, (("call", 1), ("pass", 3))), (0, (("either", (("return",),), ()),))])
        # Points: 0 call, 1 pass, 2 end; 3 either, 4 return, 5 end.
        machine = self.machine(program)
        self.assertEqual((machine.states, machine.letters), (1, 6))
        self.assertEqual(
            machine.steps,
            (
                Step(0, 0, 0, (3, 1)),
                Step(0, 1, 0, (2,)),
                Step(0, 2, 0, ()),
                Step(0, 3, 0, (4,)),
                Step(0, 3, 0, (5,)),
                Step(0, 4, 0, ()),
                Step(0, 5, 0, ()),
            ),
        )

    def test_the_smallest_program(self):
        self.assertEqual(self.machine(Program(0, [(0, ())])), Machine(1, 1, [Step(0, 0, 0)]))

    def test_global_variables(self):
        # Points: 0 set, 1 free, 2 end.
        program = Program(2, [(0, (("set", ("global", 0), ("of", ("global", 1))), ("free", ("global", 1))))])
        machine = self.machine(program)
        self.assertEqual((machine.states, machine.letters), (4, 3))
        self.assertEqual(
            self.rows(program),
            [
                (0, 0, 0, (1,), 1),
                (1, 0, 0, (1,), 1),
                (2, 0, 3, (1,), 1),
                (3, 0, 3, (1,), 1),
                (0, 1, 0, (2,), 1),
                (0, 1, 2, (2,), 1),
                (1, 1, 1, (2,), 1),
                (1, 1, 3, (2,), 1),
                (2, 1, 0, (2,), 1),
                (2, 1, 2, (2,), 1),
                (3, 1, 1, (2,), 1),
                (3, 1, 3, (2,), 1),
            ]
            + [(state, 2, state, (), 1) for state in range(4)],
        )

    def test_local_variables(self):
        # Points: 0 set with the letters 0 to 3, 1 its end with the letters 4 to 7.
        program = Program(0, [(2, (("set", ("local", 1), ("of", ("local", 0))),))])
        machine = self.machine(program)
        self.assertEqual((machine.states, machine.letters), (1, 8))
        self.assertEqual(
            self.rows(program),
            [(0, 0, 0, (4,), 1), (0, 1, 0, (7,), 1), (0, 2, 0, (4,), 1), (0, 3, 0, (7,), 1)]
            + [(0, letter, 0, (), 1) for letter in range(4, 8)],
        )

    def test_locals_of_different_numbers(self):
        # Points: 0 call, 1 end (2 letters each), 2 call, 3 end (1), 4 call, 5 end (4).
        program = Program(1, [(1, (("call", 2),)), (0, (("call", 0),)), (2, (("call", 1),))])
        machine = self.machine(program)
        self.assertEqual((machine.states, machine.letters), (2, 2 + 2 + 1 + 1 + 4 + 4))
        laid = {row[1]: row[3] for row in self.rows(program)}
        self.assertEqual([laid[letter] for letter in range(14)], [
            (6, 2), (6, 3), (), (), (0, 5), (), (4, 10), (4, 11), (4, 12), (4, 13), (), (), (), (),
        ])
        self.assertTrue(all(row[0] == row[2] for row in self.rows(program)))

    def test_against_what_follows_each_frame(self):
        chance = random.Random(81)
        for index in range(120):
            program = large_program() if index == 0 else random_program(chance)
            machine = self.machine(program)
            frames = meanings.frames_of(program)
            self.assertEqual((machine.states, machine.letters), (2 ** program.global_count, len(frames)))
            if index > 0:
                self.assertEqual(self.rows(program), meanings.machine_rows(program))
            rows = []
            for letter, frame in enumerate(frames):
                for state in range(machine.states):
                    for shared, laid in after(program, (meanings.values_of(state, program.global_count), (frame,))):
                        goal = (meanings.number_of(shared), tuple(frames.index(part) for part in laid))
                        rows.append((state, letter) + goal + (1,))
            self.assertEqual(self.rows(program), rows)

    def test_a_program_at_the_bounds(self):
        machine = self.machine(large_program())
        self.assertEqual((machine.states, machine.letters), (8, 95))
        self.assertLessEqual(len(machine.steps), 2_000)


class ConfigurationTest(CompiledCase):
    def check(self, program, situation, *expected):
        copies = (copy_of_program(program), copy_of(situation))
        configuration = configuration_of(program, situation)
        self.assertEqual(situation_of(program, configuration), situation)
        self.assertEqual((program, situation), copies)
        self.assertEqual(configuration_of(*copies), configuration)
        self.assertIs(type(configuration[0]), int)
        self.assertIs(type(configuration[1]), tuple)
        for other in expected:
            self.assertEqual(configuration, other)
        return configuration

    def test_small_examples(self):
        program = Program(2, [(1, (("call", 1),)), (2, (("return",),))])
        # Letters: 0, 1 the call; 2, 3 the end; 4 to 7 the return; 8 to 11 the end.
        self.check(program, ((F, F), ()), (0, ()))
        self.check(program, ((T, F), ()), (1, ()))
        self.check(program, ((F, T), ()), (2, ()))
        self.check(program, ((T, T), ()), (3, ()))
        self.check(program, ((F, F), ((0, (F,)),)), (0, (0,)))
        self.check(program, ((F, T), ((2, (T, F)), (1, (T,)))), (2, (5, 3)))
        self.check(program, ((T, T), ((3, (F, T)), (1, (F,)), (0, (T,)))), (3, (10, 2, 1)))

    def test_all_configurations(self):
        for program in (
            Program(0, [(0, ())]),
            Program(1, [(1, ())]),
            Program(1, [(0, (("call", 1),)), (2, ())]),
            Program(2, [(1, ()), (0, ())]),
        ):
            letters = len(meanings.frames_of(program))
            for state in range(2 ** program.global_count):
                for pile in [()] + [(a,) for a in range(letters)] + [(a, b) for a in range(letters) for b in range(letters)]:
                    situation = situation_of(program, (state, pile))
                    self.assertEqual(self.check(program, situation), (state, pile))
                    shared, frames = situation
                    self.assertTrue(all(type(value) is bool for value in shared + sum([row[1] for row in frames], ())))

    def test_many_frames(self):
        program = large_program()
        chance = random.Random(82)
        pile = tuple(chance.randrange(95) for _ in range(310))
        situation = situation_of(program, (5, pile))
        self.assertEqual(situation[0], (T, F, T))
        self.check(program, situation, (5, pile))

    def test_steps_lead_to_what_follows(self):
        chance = random.Random(83)
        for index in range(60):
            program = large_program() if index == 0 else random_program(chance)
            machine = self.machine(program)
            situations = [begin(program)]
            for _ in range(12):
                situation = chance.choice(situations)
                followers = after(program, situation)
                configuration = self.check(program, situation)
                led_to = [take(machine, configuration, step) for step in possible(machine, configuration)]
                self.assertEqual(led_to, [configuration_of(program, follower) for follower in followers])
                situations.extend(followers)


if __name__ == "__main__":
    unittest.main()
