"""Endless runs that take marked steps again and again, and the papers of them."""

import random
import unittest

from pilereach.endless import endless
from pilereach.judgeever import takes_endless
from pilereach.machine import Machine, Step
from tests import checks
from tests.samples import chain_heads, chain_steps, copy_of_machine, large_machine, random_machine


class EndlessTest(unittest.TestCase):
    def check(self, machine, marked, configuration, *expected):
        """Check the answer by its paper, and against what is expected, if told."""
        copies = (copy_of_machine(machine), list(marked), (configuration[0], tuple(list(configuration[1]))))
        answer = endless(machine, marked, configuration)
        self.assertTrue(checks.is_endless(machine, marked, configuration, answer), answer)
        self.assertIs(takes_endless(machine, marked, configuration, *answer), True)
        self.assertEqual((machine, list(marked), configuration), copies)
        self.assertEqual(endless(copies[0], marked, copies[2]), answer)
        for verdict in expected:
            self.assertIs(answer[0], verdict)
        return answer[1]

    def test_the_empty_pile(self):
        machine = Machine(1, 1, [Step(0, 0, 0, (0,))])
        paper = self.check(machine, [0], (0, ()), False)
        self.assertEqual(paper, ("not", (), ()))
        machine = Machine(2, 1, [Step(0, 0, 0, (0,)), Step(0, 0, 1)])
        self.assertEqual(self.check(machine, [1], (0, ()), False), ("not", ((0, 0, 1, True),), ()))

    def test_the_papers_of_small_examples(self):
        machine = Machine(1, 2, [Step(0, 0, 0, (0,))])
        self.assertEqual(endless(machine, [0], (0, (0,))), (True, ("ever", (), (), (), ((0, None),))))
        self.assertEqual(endless(machine, [], (0, (0,))), (False, ("not", (), (((0, 0), 0),))))
        verdict, paper = endless(machine, [0], (0, (1, 0)))
        self.assertEqual((verdict, paper), (False, ("not", (), (((0, 1), 0),))))

    def test_no_marks(self):
        machine = Machine(2, 2, [Step(0, 0, 0, (0,)), Step(0, 1, 1, (1, 0)), Step(1, 1, 0)])
        for configuration in checks.configurations(2, 2, 3):
            for marked in ([], ()):
                self.check(machine, marked, configuration, False)

    def test_marked_steps_that_are_never_taken_again(self):
        machine = Machine(2, 1, [Step(0, 0, 1, (0,)), Step(1, 0, 1, (0,))])
        self.check(machine, [0], (0, (0,)), False)
        self.check(machine, [1], (0, (0,)), True)
        self.check(machine, [0, 1], (1, (0,)), True)

    def test_an_endless_run_needs_no_circle_of_configurations(self):
        # The pile grows for ever.
        machine = Machine(1, 1, [Step(0, 0, 0, (0, 0))])
        self.check(machine, [0], (0, (0,)), True)
        self.check(machine, [0], (0, (0, 0)), True)

    def test_a_ring_that_takes_off_in_between(self):
        # 0 lays 1 above 2, 1 is taken off, 2 becomes 0 again.
        machine = Machine(2, 3, [Step(0, 0, 0, (1, 2)), Step(0, 1, 1), Step(1, 2, 0, (0,))])
        for marked in ([0], [1], [2], [0, 1, 2]):
            paper = self.check(machine, marked, (0, (0,)), True)
            self.assertTrue(any(part is not None for _, part in paper[4]))
        self.check(machine, [0], (1, (0,)), False)
        # From state 0 nothing goes on at 2.
        machine = Machine(2, 3, [Step(0, 0, 0, (1, 2)), Step(0, 1, 0), Step(1, 2, 0, (0,))])
        self.check(machine, [0, 1, 2], (0, (0,)), False)

    def test_the_only_marked_step_is_within_a_row(self):
        # 1 is taken off by way of 3, and only that step is marked.
        steps = [
            Step(0, 0, 0, (1, 2)),
            Step(0, 1, 0, (3, 3)),
            Step(0, 3, 1),
            Step(1, 3, 1),
            Step(1, 2, 0, (0,)),
        ]
        for mark in range(5):
            self.check(Machine(2, 4, steps), [mark], (0, (0,)), True)
        # There is another way without it; the right one must be chosen.
        steps.append(Step(0, 1, 1))
        for mark in range(6):
            paper = self.check(Machine(2, 4, steps), [mark], (0, (0,)), True)
            self.assertEqual(paper[0], "ever")
        # The other way stands first.
        steps = [steps[5]] + steps[:5]
        for mark in range(6):
            self.check(Machine(2, 4, steps), [mark], (0, (0,)), True)

    def test_a_marked_step_of_another_way_off(self):
        # The marked way takes 1 off, but ends where nothing goes on.
        steps = [Step(0, 0, 0, (1, 2)), Step(0, 1, 1), Step(0, 1, 0, ()), Step(0, 2, 0, (0,))]
        self.check(Machine(2, 3, steps), [1], (0, (0,)), False)
        self.check(Machine(2, 3, steps), [2], (0, (0,)), True)

    def test_a_ring_behind_letters_that_are_taken_off(self):
        machine = Machine(3, 3, [Step(0, 0, 1), Step(1, 0, 2), Step(2, 1, 2, (1,)), Step(0, 1, 0, (1,))])
        paper = self.check(machine, [2], (0, (0, 0, 1)), True)
        self.assertEqual(len(paper[2]), 2)
        self.check(machine, [2], (0, (0, 1)), False)
        self.check(machine, [2], (0, (0, 0)), False)
        self.check(machine, [2], (0, (0, 0, 0, 1)), False)
        self.check(machine, [3], (0, (0, 0, 1)), False)
        self.check(machine, [3], (0, (1, 0, 1)), True)

    def test_the_whole_pile_may_be_taken_off(self):
        machine = Machine(1, 1, [Step(0, 0, 0)])
        self.check(machine, [0], (0, (0,) * 5), False)

    def test_marks_in_another_order_and_with_repeats(self):
        chance = random.Random(51)
        for _ in range(60):
            machine = random_machine(chance)
            marked = [index for index in range(len(machine.steps)) if chance.random() < 0.3]
            pile = tuple(chance.randrange(machine.letters) for _ in range(3))
            configuration = (chance.randrange(machine.states), pile)
            verdict, _ = endless(machine, marked, configuration)
            more = marked * 3
            chance.shuffle(more)
            for marks in (marked, tuple(marked), marked[::-1], more, tuple(more)):
                self.check(machine, marks, configuration, verdict)

    def test_random_machines(self):
        chance = random.Random(52)
        verdicts = []
        for _ in range(400):
            machine = random_machine(chance, 4, 4, 16)
            share = chance.choice((0.05, 0.2, 0.6))
            marked = [index for index in range(len(machine.steps)) if chance.random() < share]
            for height in (1, 2, 4, 9):
                pile = tuple(chance.randrange(machine.letters) for _ in range(height))
                paper = self.check(machine, marked, (chance.randrange(machine.states), pile))
                verdicts.append(paper[0])
        self.assertGreater(verdicts.count("ever"), 100)
        self.assertGreater(verdicts.count("not"), 100)


class LargeTest(unittest.TestCase):
    def check(self, machine, marked, configuration, *expected):
        answer = endless(machine, marked, configuration)
        self.assertTrue(checks.is_endless(machine, marked, configuration, answer))
        self.assertIs(takes_endless(machine, marked, configuration, *answer), True)
        for verdict in expected:
            self.assertIs(answer[0], verdict)
        return answer[1]

    def test_a_long_chain_of_heads(self):
        heads = chain_heads()
        steps = chain_steps(heads)
        below = (0,) * 299
        marked = list(range(len(steps))) * 2
        self.check(Machine(64, 31, steps), marked, (0, (0,) + below), False)
        last, letter = heads[-1]
        for goal in (0, 1_000, len(heads) - 1):
            back = Step(last, letter, heads[goal][0], (heads[goal][1],))
            machine = Machine(64, 31, steps + [back])
            self.check(machine, [len(steps)], (0, (0,) + below), True)
            self.check(machine, [5] * 4_000, (0, (0,) + below), goal == 0)

    def test_a_long_chain_that_takes_off(self):
        heads = chain_heads()[:900]
        steps = chain_steps(heads, (30,)) + [Step(heads[-1][0], heads[-1][1], 0)]
        machine = Machine(64, 31, steps + [Step(0, 30, 0, (0,))])
        for mark in (0, 7, 898, 899, 900):
            self.check(machine, [mark], (0, (0, 1)), True)
        self.check(Machine(64, 31, steps + [Step(0, 30, 0)]), list(range(800)), (0, (0,) * 300), False)

    def test_tall_piles(self):
        steps = [Step(state, letter, (state * 5 + letter) % 64) for state in range(64) for letter in range(30)]
        pile = tuple(index * index % 30 for index in range(309))
        state = 9
        for letter in pile:
            state = (state * 5 + letter) % 64
        machine = Machine(64, 31, steps + [Step(state, 30, state, (30,))])
        paper = self.check(machine, [len(steps)], (9, pile + (30,)), True)
        self.assertEqual(len(paper[2]), 309)
        self.check(machine, [len(steps)], (9, pile[:-1] + (30,)))
        self.check(machine, list(range(len(steps))), (9, pile), False)
        self.check(machine, list(range(len(steps))), (9, pile + (30,)), False)

    def test_machines_at_the_bounds(self):
        chance = random.Random(53)
        for states, letters, laid in ((64, 128, (0, 1, 2)), (1, 128, (0, 1, 2)), (64, 1, (0, 1, 2)), (16, 16, (0, 2))):
            machine = large_machine(chance, states, letters, laid)
            pile = tuple(chance.randrange(letters) for _ in range(300))
            marked = [chance.randrange(2_000) for _ in range(4_000)]
            self.check(machine, marked, (chance.randrange(states), pile))
            self.check(machine, marked[:1], (chance.randrange(states), pile))
            self.check(machine, [], (chance.randrange(states), pile), False)


if __name__ == "__main__":
    unittest.main()
