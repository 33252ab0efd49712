"""What runs out of a set lead to, and the papers of it."""

import random
import unittest

from pilereach.behind import behind, came
from pilereach.errors import Mismatch, NotPlain
from pilereach.judge import takes_came
from pilereach.machine import Machine, Step
from pilereach.net import Net, none_net, single, whole_net
from tests import checks
from tests.samples import (
    chain_heads,
    chain_steps,
    copy_of_machine,
    copy_of_net,
    large_machine,
    large_net,
    random_machine,
    random_net,
)


class CameTest(unittest.TestCase):
    def check(self, machine, net, configuration, *expected):
        """Check the answer by its paper, and against what is expected, if told."""
        copies = (copy_of_machine(machine), copy_of_net(net), (configuration[0], tuple(list(configuration[1]))))
        answer = came(machine, net, configuration)
        self.assertTrue(checks.is_came(machine, net, configuration, answer), answer)
        self.assertIs(takes_came(machine, net, configuration, *answer), True)
        self.assertEqual((machine, net, configuration), copies)
        self.assertEqual(came(*copies), answer)
        self.assertIs(behind(machine, net).accepts(configuration), answer[0])
        for verdict in expected:
            self.assertIs(answer[0], verdict)
        if answer[0]:
            self.check_run(machine, net, configuration, answer[1])
        else:
            # Net must take the parts as they stand in the paper.
            made = Net(machine.states, machine.letters, *answer[1][1:])
            self.assertIs(made.accepts(configuration), False)
        return answer[1]

    def check_run(self, machine, net, configuration, paper):
        """Take the run step by step, if it can be spelled out."""
        _, begin, rows, way = paper
        self.assertIs(net.accepts(begin), True)
        if checks.length_of_run(rows, way) < 1_000:
            self.assertEqual(checks.take_all(machine, begin, checks.run_of(rows, way)), configuration)

    def test_configurations_in_the_set(self):
        machine = Machine(2, 2, [Step(0, 0, 1)])
        net = Net(2, 2, 4, [(0, 0, 2), (2, 1, 2), (1, 1, 3)], [2, 1])
        for configuration in ((0, (0,)), (0, (0, 1)), (0, (0, 1, 1)), (1, ())):
            paper = self.check(machine, net, configuration, True)
            self.assertEqual(paper[0], "came")

    def test_the_papers_of_a_small_example(self):
        machine = Machine(2, 1, [Step(0, 0, 1)])
        net = single(2, 1, (0, (0, 0)))
        self.assertEqual(
            came(machine, net, (1, (0,))),
            (True, ("came", (0, (0, 0)), ((0, ()),), (("row", 0), ("net", (1, 0, 2))))),
        )
        verdict, paper = came(machine, net, (1, (0, 0)))
        self.assertIs(verdict, False)
        self.assertEqual(paper, ("stays", 4, ((0, 0, 2), (1, 0, 3), (2, 0, 3)), (3,)))

    def test_steps_that_lay_none(self):
        machine = Machine(3, 2, [Step(0, 0, 1), Step(1, 1, 2)])
        net = single(3, 2, (0, (0, 1, 0)))
        self.check(machine, net, (1, (1, 0)), True)
        self.check(machine, net, (2, (0,)), True)
        self.check(machine, net, (2, ()), False)
        self.check(machine, net, (1, (0,)), False)
        self.check(machine, net, (2, (1, 0)), False)

    def test_the_empty_pile(self):
        machine = Machine(3, 1, [Step(0, 0, 1), Step(1, 0, 2)])
        net = Net(3, 1, 3, [(0, 0, 2)], [])
        for state in range(3):
            self.check(machine, none_net(3, 1), (state, ()), False)
        net = single(3, 1, (0, (0, 0)))
        self.check(machine, net, (2, ()), True)
        self.check(machine, net, (1, ()), False)
        self.check(machine, net, (0, ()), False)
        self.check(machine, single(3, 1, (0, ())), (0, ()), True)
        self.check(machine, single(3, 1, (0, ())), (1, ()), False)

    def test_steps_that_lay_one_or_two(self):
        machine = Machine(2, 3, [Step(0, 0, 1, (1,)), Step(1, 1, 0, (2, 0)), Step(0, 2, 0)])
        net = single(2, 3, (0, (0, 1)))
        for configuration in ((1, (1, 1)), (0, (2, 0, 1)), (0, (0, 1))):
            self.check(machine, net, configuration, True)
        for configuration in ((1, (0, 1)), (0, (0, 2, 1)), (0, (2, 1)), (1, (1,)), (1, (1, 1, 1))):
            self.check(machine, net, configuration, False)

    def test_what_is_laid_over_and_over(self):
        machine = Machine(2, 2, [Step(0, 0, 0, (0, 1)), Step(0, 0, 1)])
        net = single(2, 2, (0, (0, 0)))
        for height in (0, 1, 5, 299):
            self.check(machine, net, (0, (0,) + (1,) * height + (0,)), True)
            self.check(machine, net, (1, (1,) * height + (0,)), True)
            self.check(machine, net, (0, (1,) * height + (0,)), height == -1)
            self.check(machine, net, (1, (1,) * (height + 1)), False)

    def test_one_of_many_beginnings(self):
        machine = Machine(2, 2, [Step(0, 0, 0), Step(0, 1, 1)])
        net = Net(2, 2, 3, [(0, 0, 2), (2, 0, 2), (2, 1, 2)], [2])
        paper = self.check(machine, net, (1, (0, 0)), True)
        self.assertTrue(checks.accepts(net, paper[1]))
        self.check(machine, net, (1, ()), True)
        self.check(machine, net, (1, (1, 1)), True)

    def test_whole_and_none(self):
        machine = Machine(2, 2, [Step(0, 0, 1), Step(1, 0, 0, (0, 1)), Step(1, 1, 1, (0,))])
        for configuration in checks.configurations(2, 2, 3):
            self.check(machine, whole_net(2, 2), configuration, True)
            self.check(machine, none_net(2, 2), configuration, False)
            net = single(2, 2, (1, (0, 1)))
            self.check(Machine(2, 2, []), net, configuration, configuration == (1, (0, 1)))

    def test_against_runs_taken_step_by_step(self):
        chance = random.Random(41)
        for _ in range(120):
            machine = random_machine(chance)
            net = random_net(chance, machine.states, machine.letters, True)
            begins = [c for c in checks.configurations(machine.states, machine.letters, 3) if checks.accepts(net, c)]
            led_to = checks.reached(machine, begins, 5)
            everything = checks.configurations(machine.states, machine.letters, 3)
            for configuration in chance.sample(everything, min(10, len(everything))):
                verdict = self.check(machine, net, configuration)[0] == "came"
                if configuration in led_to:
                    self.assertIs(verdict, True)

    def test_larger_machines(self):
        chance = random.Random(42)
        for _ in range(100):
            machine = random_machine(chance, 6, 5, 60)
            net = random_net(chance, machine.states, machine.letters, True)
            for height in (0, 1, 2, 5, 20):
                pile = tuple(chance.randrange(machine.letters) for _ in range(height))
                self.check(machine, net, (chance.randrange(machine.states), pile))


class BehindTest(unittest.TestCase):
    def test_exactly_what_runs_lead_to(self):
        chance = random.Random(43)
        for _ in range(120):
            machine = random_machine(chance)
            net = random_net(chance, machine.states, machine.letters, True)
            copies = (copy_of_machine(machine), copy_of_net(net))
            made = behind(machine, net)
            self.assertIsInstance(made, Net)
            self.assertEqual((made.states, made.letters), (net.states, net.letters))
            self.assertEqual((machine, net), copies)
            self.assertEqual(behind(*copies), made)
            begins = [c for c in checks.configurations(machine.states, machine.letters, 3) if checks.accepts(net, c)]
            led_to = checks.reached(machine, begins, 5)
            for configuration in checks.configurations(machine.states, machine.letters, 3):
                accepted = made.accepts(configuration)
                if configuration in led_to:
                    self.assertIs(accepted, True)
                elif accepted:
                    answer = came(machine, net, configuration)
                    self.assertIs(answer[0], True)
                    self.assertTrue(checks.is_came(machine, net, configuration, answer))

    def test_a_machine_without_steps(self):
        net = Net(2, 2, 4, [(0, 0, 2), (2, 1, 3)], [3, 1])
        made = behind(Machine(2, 2, []), net)
        for configuration in checks.configurations(2, 2, 3):
            self.assertIs(made.accepts(configuration), checks.accepts(net, configuration))


class WrongArgumentsTest(unittest.TestCase):
    def check_raises(self, error, machine, net):
        for call in (lambda: behind(machine, net), lambda: came(machine, net, (0, (0,))), lambda: came(machine, net, (0, ()))):
            with self.assertRaises(error) as caught:
                call()
            self.assertIs(type(caught.exception), error)

    def test_mismatch(self):
        machine = Machine(2, 3, [Step(0, 0, 1)])
        for states, letters in ((1, 3), (3, 3), (2, 2), (2, 4), (3, 2)):
            self.check_raises(Mismatch, machine, none_net(states, letters))
            self.check_raises(Mismatch, machine, whole_net(states, letters))

    def test_not_plain(self):
        machine = Machine(2, 3, [Step(0, 0, 1)])
        for goal in (0, 1):
            self.check_raises(NotPlain, machine, Net(2, 3, 2, [(0, 0, goal)], []))
            self.check_raises(NotPlain, machine, Net(2, 3, 4, [(0, 0, 3), (2, 0, 3), (3, 0, goal)], [3]))

    def test_mismatch_goes_before_not_plain(self):
        machine = Machine(2, 3, [Step(0, 0, 1)])
        for states, letters in ((1, 3), (3, 3), (2, 2), (2, 4)):
            self.check_raises(Mismatch, machine, Net(states, letters, 3, [(0, 0, 0)], [0]))


class LargeTest(unittest.TestCase):
    def check(self, machine, net, configuration, *expected):
        answer = came(machine, net, configuration)
        self.assertTrue(checks.is_came(machine, net, configuration, answer))
        self.assertIs(takes_came(machine, net, configuration, *answer), True)
        self.assertIs(behind(machine, net).accepts(configuration), answer[0])
        for verdict in expected:
            self.assertIs(answer[0], verdict)

    def test_a_long_chain_of_heads(self):
        heads = chain_heads()
        machine = Machine(64, 31, chain_steps(heads))
        below = tuple(index % 31 for index in range(299))
        last, letter = heads[-1]
        net = single(64, 31, (0, (0,) + below))
        self.check(machine, net, (last, (letter,) + below), True)
        self.check(machine, net, (last, (letter,) + below[:-1]), False)
        self.check(machine, net, (last, (letter,) + below[:-1] + (30,)), False)

    def test_a_long_chain_that_piles_up(self):
        heads = chain_heads()[:301]
        machine = Machine(64, 31, chain_steps(heads, (30,)))
        last, letter = heads[-1]
        self.check(machine, single(64, 31, (0, (0,))), (last, (letter,) + (30,) * 300), True)
        self.check(machine, single(64, 31, (0, (0,))), (last, (letter,) + (30,) * 299), False)

    def test_tall_piles_that_are_taken_off(self):
        steps = [Step(state, letter, (state * 5 + letter) % 64, (), 2) for state in range(64) for letter in range(31)]
        machine = Machine(64, 31, steps)
        pile = tuple(index * index % 31 for index in range(310))
        state = 9
        for letter in pile:
            state = (state * 5 + letter) % 64
        self.check(machine, single(64, 31, (9, pile)), (state, ()), True)
        self.check(machine, single(64, 31, (9, pile)), ((state + 1) % 64, ()), False)

    def test_machines_and_nets_at_the_bounds(self):
        chance = random.Random(44)
        for states, letters, laid in ((64, 128, (0, 1, 2)), (1, 128, (0, 1, 2)), (64, 1, (0, 1, 2)), (16, 16, (0, 2))):
            machine = large_machine(chance, states, letters, laid)
            net = large_net(chance, states, letters)
            pile = tuple(chance.randrange(letters) for _ in range(300))
            self.check(machine, net, (chance.randrange(states), pile))
            self.check(machine, none_net(states, letters), (chance.randrange(states), pile), False)


if __name__ == "__main__":
    unittest.main()
