"""Least weights and their papers, and from where runs lead into a set."""

import random
import unittest

from pilereach.ahead import ahead, least
from pilereach.errors import Mismatch, NotPlain
from pilereach.judge import takes_least
from pilereach.machine import Machine, Step
from pilereach.net import Net, none_net, single, whole_net
from pilereach.spelling import length_of, spelled
from tests import checks
from tests.samples import (
    chain_heads,
    chain_steps,
    copy_of_machine,
    copy_of_net,
    doubling_machine,
    large_machine,
    large_net,
    random_machine,
    random_net,
)

BIG = 10 ** 9


def empty_at(states, letters, *ends):
    """A net that accepts the empty pile in some states."""
    return Net(states, letters, states, [], ends)


class LeastTest(unittest.TestCase):
    def check(self, machine, net, configuration, *expected):
        """Check the answer by its paper, and against what is expected, if told."""
        copies = (copy_of_machine(machine), copy_of_net(net), (configuration[0], tuple(list(configuration[1]))))
        answer = least(machine, net, configuration)
        self.assertTrue(checks.is_least(machine, net, configuration, answer), answer)
        self.assertIs(takes_least(machine, net, configuration, *answer), True)
        self.assertEqual((machine, net, configuration), copies)
        self.assertEqual(least(copies[0], copies[1], copies[2]), answer)
        self.assertIs(ahead(machine, net).accepts(configuration), answer[0] is not None)
        for weight in expected:
            self.assertEqual(answer[0], weight)
        return answer

    def run_length(self, machine, net, configuration, weight):
        """The number of steps of the run of a paper, after it is taken."""
        paper = self.check(machine, net, configuration, weight)[1]
        run = checks.run_of(paper[1], paper[2])
        self.assertTrue(checks.accepts(net, checks.take_all(machine, configuration, run)))
        self.assertEqual(sum(machine.steps[index].weight for index in run), weight)
        return len(run)

    def test_configurations_in_the_set(self):
        machine = Machine(2, 2, [Step(0, 0, 1, (), 0), Step(0, 0, 0, (0,), 0), Step(0, 0, 1, (1, 1), 3)])
        net = Net(2, 2, 4, [(0, 0, 2), (2, 1, 2), (1, 1, 3)], [2, 1])
        for configuration in ((0, (0,)), (0, (0, 1)), (0, (0, 1, 1)), (1, ())):
            weight, paper = self.check(machine, net, configuration, 0)
            self.assertEqual((paper[0], paper[1]), ("least", ()))
            self.assertEqual(spelled(machine, paper, 0), ())
            self.assertTrue(all(kind == "net" for kind, _ in paper[2]))

    def test_the_paper_of_a_small_example(self):
        machine = Machine(2, 1, [Step(0, 0, 1, (), 5)])
        weight, paper = least(machine, Net(2, 1, 3, [(1, 0, 2)], [2]), (0, (0, 0)))
        self.assertEqual(weight, 5)
        self.assertEqual(
            paper,
            ("least", ((0, ()),), (("row", 0), ("net", (1, 0, 2))), (((0, 0, 1), 5), ((1, 0, 2), 0))),
        )
        weight, paper = least(machine, Net(2, 1, 3, [(1, 0, 2)], [2]), (1, (0, 0)))
        self.assertIsNone(weight)
        self.assertEqual(paper, ("never", (((0, 0, 1), 5), ((1, 0, 2), 0))))

    def test_weights_of_0(self):
        machine = Machine(2, 2, [Step(0, 0, 0, (1, 1), 0), Step(0, 1, 0, (1,), 0), Step(0, 1, 1, (), 0), Step(1, 1, 0, (), 0)])
        self.assertEqual(self.run_length(machine, empty_at(2, 2, 0), (0, (0,)), 0), 3)
        self.check(machine, empty_at(2, 2, 1), (0, (0,)), None)
        self.assertEqual(self.run_length(machine, empty_at(2, 2, 1), (0, (1,)), 0), 1)

    def test_two_ways_of_different_weight(self):
        net = empty_at(2, 2, 1)
        for first, second in ((9, 4), (4, 9), (4, 4)):
            machine = Machine(2, 2, [Step(0, 0, 1, (), first), Step(0, 0, 0, (1,), 1), Step(0, 1, 1, (), second - 1)])
            self.check(machine, net, (0, (0,)), min(first, second))
        # The run with fewer steps is the dearer one.
        machine = Machine(1, 3, [Step(0, 0, 0, (), 10), Step(0, 0, 0, (1, 1), 1), Step(0, 1, 0, (2, 2), 1), Step(0, 2, 0, (), 1)])
        self.assertEqual(self.run_length(machine, empty_at(1, 3, 0), (0, (0,)), 7), 7)

    def test_two_equal_steps_of_different_weight(self):
        for weights in ((5, 2), (2, 5), (2, 2)):
            steps = [Step(0, 0, 0, laid, weight) for weight in weights for laid in ((), (0, 0))]
            self.check(Machine(1, 1, steps), empty_at(1, 1, 0), (0, (0, 0, 0)), 6)

    def test_of_equal_weights_the_shortest_run_is_taken(self):
        # Without care a run of weight 0 could be as long as 2 ** 20 steps.
        steps = [Step(0, letter, 0, (letter + 1, letter + 1), 0) for letter in range(20)]
        steps += [Step(0, 20, 0, (), 0), Step(0, 0, 0, (21,), 0), Step(0, 21, 0, (22,), 0), Step(0, 22, 0, (), 0)]
        self.assertEqual(self.run_length(Machine(1, 23, steps), empty_at(1, 23, 0), (0, (0,)), 0), 3)

    def test_steps_that_lay_one_letter(self):
        machine = Machine(2, 3, [Step(0, 0, 1, (1,), 2), Step(1, 1, 0, (2,), 3), Step(0, 2, 0, (0,), 4)])
        net = Net(2, 3, 4, [(0, 2, 2), (2, 0, 3)], [3])
        self.check(machine, net, (0, (0, 0)), 5)
        self.check(machine, net, (1, (1, 0)), 3)
        self.check(machine, net, (0, (2, 0)), 0)
        self.check(machine, net, (0, (0, 1)), None)
        self.check(machine, net, (0, (1, 0)), None)

    def test_steps_that_lay_two_letters(self):
        # Both letters become part of the pile that the net accepts.
        machine = Machine(2, 3, [Step(0, 0, 1, (1, 2), 7)])
        net = Net(2, 3, 5, [(1, 1, 2), (2, 2, 3), (3, 0, 4)], [4])
        self.check(machine, net, (0, (0, 0)), 7)
        self.check(machine, net, (0, (0,)), None)
        self.check(machine, net, (0, (0, 0, 0)), None)
        self.check(Machine(2, 3, [Step(0, 0, 1, (2, 1), 7)]), net, (0, (0, 0)), None)
        # The first one is taken off, the second one stays.
        machine = Machine(2, 3, [Step(0, 0, 1, (1, 2), 7), Step(1, 1, 0, (), 5)])
        self.check(machine, Net(2, 3, 4, [(0, 2, 2)], [2]), (0, (0,)), 12)

    def test_the_second_letter_is_taken_off_from_where_the_first_one_ends(self):
        machine = Machine(3, 2, [Step(0, 0, 0, (1, 1), 1), Step(0, 1, 1, (), 2), Step(1, 1, 2, (), 4)])
        self.check(machine, empty_at(3, 2, 2), (0, (0,)), 7)
        self.check(machine, empty_at(3, 2, 1), (0, (0,)), None)
        self.check(machine, empty_at(3, 2, 0), (0, (0,)), None)

    def test_runs_that_pile_up_before_they_take_off(self):
        machine = Machine(2, 2, [Step(0, 0, 0, (0, 1), 1), Step(0, 0, 1, (), 1), Step(1, 1, 1, (), 1)])
        net = Net(2, 2, 5, [(1, 1, 2), (2, 1, 3), (3, 1, 4)], [4])
        self.check(machine, net, (0, (0,)), 4)
        self.check(machine, net, (0, (0, 1)), 3)
        self.check(machine, net, (0, (0, 1, 1, 1, 1)), 2)
        self.check(machine, net, (1, (1,) * 9), 6)
        self.check(machine, net, (1, (1, 1)), None)

    def test_configurations_without_any_run(self):
        machine = Machine(2, 2, [Step(0, 0, 0, (0, 0)), Step(0, 1, 0, (1,))])
        for net in (none_net(2, 2), empty_at(2, 2, 0, 1), single(2, 2, (1, (0, 1)))):
            for configuration in ((0, (0,)), (0, (1,)), (0, (0, 1, 0)), (1, (0, 0))):
                weight, paper = self.check(machine, net, configuration, None)
                self.assertEqual((paper[0], len(paper)), ("never", 2))
        self.check(Machine(2, 2, []), none_net(2, 2), (0, (0,)), None)

    def test_the_empty_pile(self):
        machine = Machine(2, 1, [Step(0, 0, 1, (), 3)])
        self.check(machine, empty_at(2, 1, 1), (1, ()), 0)
        self.check(machine, empty_at(2, 1, 1), (0, ()), None)
        self.check(machine, empty_at(2, 1, 1), (0, (0,)), 3)
        self.check(machine, none_net(2, 1), (0, ()), None)
        self.check(machine, Net(2, 1, 3, [(0, 0, 2)], [2]), (0, ()), None)

    def test_ends_that_are_state_nodes_and_others(self):
        net = Net(2, 1, 3, [(1, 0, 2)], [0, 2])
        machine = Machine(2, 1, [Step(0, 0, 1, (), 2), Step(1, 0, 0, (), 4)])
        self.check(machine, net, (0, (0, 0)), 2)
        self.check(machine, net, (1, (0, 0)), None)
        self.check(machine, net, (1, (0,)), 0)
        self.check(machine, net, (0, (0, 0, 0)), None)

    def test_weights_without_a_bound(self):
        machine = doubling_machine(128)
        weight, paper = self.check(machine, empty_at(1, 128, 0), (0, (0,) * 300))
        self.assertEqual(weight, 300 * (2 ** 128 - 1))
        steps = [Step(step.state, step.letter, step.goal, step.laid, BIG) for step in machine.steps]
        self.check(Machine(1, 128, steps), empty_at(1, 128, 0), (0, (0, 5)), BIG * (2 ** 128 + 2 ** 123 - 2))

    def test_against_all_runs_of_small_height(self):
        chance = random.Random(21)
        for _ in range(120):
            machine = random_machine(chance)
            net = random_net(chance, machine.states, machine.letters, True)
            weights = checks.least_weights(machine, net, 5)
            everything = checks.configurations(machine.states, machine.letters, 3)
            for configuration in chance.sample(everything, min(12, len(everything))):
                weight, paper = self.check(machine, net, configuration)
                if configuration in weights:
                    self.assertIsNotNone(weight)
                    self.assertLessEqual(weight, weights[configuration])
                if checks.accepts(net, configuration):
                    self.assertEqual((weight, paper[1]), (0, ()))
                if weight is not None and length_of(machine, paper) < 1_000:
                    self.run_length(machine, net, configuration, weight)

    def test_larger_machines(self):
        chance = random.Random(22)
        for _ in range(120):
            machine = random_machine(chance, 6, 5, 60)
            net = random_net(chance, machine.states, machine.letters, True)
            for height in (0, 1, 3, 10, 30):
                pile = tuple(chance.randrange(machine.letters) for _ in range(height))
                self.check(machine, net, (chance.randrange(machine.states), pile))


class AheadTest(unittest.TestCase):
    def test_exactly_what_has_a_least_weight(self):
        chance = random.Random(23)
        for _ in range(120):
            machine = random_machine(chance)
            net = random_net(chance, machine.states, machine.letters, True)
            copies = (copy_of_machine(machine), copy_of_net(net))
            made = ahead(machine, net)
            self.assertIsInstance(made, Net)
            self.assertEqual((made.states, made.letters), (net.states, net.letters))
            self.assertEqual((machine, net), copies)
            self.assertEqual(ahead(*copies), made)
            weights = checks.least_weights(machine, net, 5)
            for configuration in checks.configurations(machine.states, machine.letters, 3):
                accepted = made.accepts(configuration)
                if configuration in weights:
                    self.assertIs(accepted, True)
                elif accepted:
                    self.assertTrue(checks.is_least(machine, net, configuration, least(machine, net, configuration)))
                    self.assertIsNotNone(least(machine, net, configuration)[0])

    def test_a_machine_without_steps(self):
        net = Net(2, 2, 4, [(0, 0, 2), (2, 1, 3)], [3, 1])
        made = ahead(Machine(2, 2, []), net)
        for configuration in checks.configurations(2, 2, 3):
            self.assertIs(made.accepts(configuration), checks.accepts(net, configuration))

    def test_whole_and_none(self):
        machine = Machine(2, 2, [Step(0, 0, 1), Step(1, 0, 0, (0, 1)), Step(1, 1, 1, (0,))])
        for configuration in checks.configurations(2, 2, 4):
            self.assertIs(ahead(machine, whole_net(2, 2)).accepts(configuration), True)
            self.assertIs(ahead(machine, none_net(2, 2)).accepts(configuration), False)


class WrongArgumentsTest(unittest.TestCase):
    def check_raises(self, error, machine, net):
        for call in (lambda: ahead(machine, net), lambda: least(machine, net, (0, (0,))), lambda: least(machine, net, (0, ()))):
            with self.assertRaises(error) as caught:
                call()
            self.assertIs(type(caught.exception), error)

    def test_mismatch(self):
        machine = Machine(2, 3, [Step(0, 0, 1)])
        for states, letters in ((1, 3), (3, 3), (2, 2), (2, 4), (3, 2)):
            self.check_raises(Mismatch, machine, none_net(states, letters))
            self.check_raises(Mismatch, machine, whole_net(states, letters))

    def test_not_plain(self):
        machine = Machine(2, 3, [Step(0, 0, 1)])
        for goal in (0, 1):
            self.check_raises(NotPlain, machine, Net(2, 3, 2, [(0, 0, goal)], []))
            self.check_raises(NotPlain, machine, Net(2, 3, 4, [(0, 0, 3), (2, 0, 3), (3, 0, goal)], [3]))

    def test_mismatch_goes_before_not_plain(self):
        machine = Machine(2, 3, [Step(0, 0, 1)])
        for states, letters in ((1, 3), (3, 3), (2, 2), (2, 4)):
            self.check_raises(Mismatch, machine, Net(states, letters, 3, [(0, 0, 0)], [0]))


class LargeTest(unittest.TestCase):
    def check(self, machine, net, configuration, *expected):
        answer = least(machine, net, configuration)
        self.assertTrue(checks.is_least(machine, net, configuration, answer))
        self.assertIs(takes_least(machine, net, configuration, *answer), True)
        self.assertIs(ahead(machine, net).accepts(configuration), answer[0] is not None)
        for weight in expected:
            self.assertEqual(answer[0], weight)
        return answer[1]

    def test_a_long_chain_of_heads(self):
        heads = chain_heads()
        machine = Machine(64, 31, chain_steps(heads))
        below = tuple(index % 31 for index in range(299))
        last, letter = heads[-1]
        net = single(64, 31, (last, (letter,) + below))
        paper = self.check(machine, net, (0, (0,) + below), 3 * (len(heads) - 1))
        run = spelled(machine, paper, 10_000)
        self.assertEqual(run, tuple(range(len(heads) - 1)))
        self.check(machine, net, (0, (0,) + below[:-1]), None)

    def test_a_long_chain_that_piles_up(self):
        heads = chain_heads()[:301]
        machine = Machine(64, 31, chain_steps(heads, (30,)))
        last, letter = heads[-1]
        net = single(64, 31, (last, (letter,) + (30,) * 300))
        self.check(machine, net, (0, (0,)), 900)
        self.check(machine, net, (0, (0, 30)), None)

    def test_tall_piles_that_are_taken_off(self):
        chance = random.Random(24)
        steps = [Step(state, letter, (state * 5 + letter) % 64, (), 2) for state in range(64) for letter in range(31)]
        machine = Machine(64, 31, steps)
        pile = tuple(chance.randrange(31) for _ in range(310))
        state, weight = checks.take_all(machine, (9, pile), [])[0], 0
        for letter in pile:
            state = (state * 5 + letter) % 64
        self.check(machine, empty_at(64, 31, state), (9, pile), 620)
        self.check(machine, empty_at(64, 31, (state + 1) % 64), (9, pile), None)

    def test_machines_and_nets_at_the_bounds(self):
        chance = random.Random(25)
        for states, letters, laid in ((64, 128, (0, 1, 2)), (1, 128, (0, 1, 2)), (64, 1, (0, 1, 2)), (16, 16, (0, 2))):
            machine = large_machine(chance, states, letters, laid)
            net = large_net(chance, states, letters)
            pile = tuple(chance.randrange(letters) for _ in range(300))
            self.check(machine, net, (chance.randrange(states), pile))


if __name__ == "__main__":
    unittest.main()
