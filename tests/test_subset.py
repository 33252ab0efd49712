"""Deterministic nets, what a net does not accept, and what only one accepts."""

import random
import unittest

from pilereach.errors import Mismatch
from pilereach.net import Net, none_net, single, whole_net
from pilereach.subset import deterministic, minus, other
from tests import checks
from tests.samples import copy_of_net, random_net, random_nets


def pairs_of(net):
    """All pairs of a node and a letter, ascending."""
    return [(node, letter) for node in range(net.nodes) for letter in range(net.letters)]


class SubsetTest(unittest.TestCase):
    def check_made(self, made, net):
        self.assertIsInstance(made, Net)
        self.assertIs(made.is_plain, True)
        self.assertEqual((made.states, made.letters), (net.states, net.letters))

    def check_one(self, net, height=4):
        copy = copy_of_net(net)
        same = deterministic(net)
        others = other(net)
        self.check_made(same, net)
        self.check_made(others, net)
        self.assertEqual([edge[:2] for edge in same.edges], pairs_of(same))
        for configuration in checks.configurations(net.states, net.letters, height):
            verdict = checks.accepts(net, configuration)
            self.assertIs(same.accepts(configuration), verdict)
            self.assertIs(others.accepts(configuration), not verdict)
        self.assertEqual(net, copy)
        self.assertEqual((deterministic(net), other(net)), (same, others))

    def check_two(self, a, b, height=4):
        copies = (copy_of_net(a), copy_of_net(b))
        made = minus(a, b)
        self.check_made(made, a)
        for configuration in checks.configurations(a.states, a.letters, height):
            verdict = checks.accepts(a, configuration) and not checks.accepts(b, configuration)
            self.assertIs(made.accepts(configuration), verdict)
        self.assertEqual((a, b), copies)
        self.assertEqual(minus(a, b), made)

    def test_one_letter_with_two_goals(self):
        # The second letter from the end is a 1.
        self.check_one(Net(1, 2, 4, [(0, 0, 1), (0, 1, 1), (1, 0, 1), (1, 1, 1), (0, 1, 2), (1, 1, 2), (2, 0, 3), (2, 1, 3)], [3]), 6)

    def test_letters_without_an_edge(self):
        self.check_one(Net(1, 3, 2, [(0, 1, 1)], [1]))
        self.check_one(Net(2, 2, 2, [], [1]))

    def test_edges_that_end_at_state_nodes(self):
        self.check_one(Net(1, 1, 1, [(0, 0, 0)], [0]))
        self.check_one(Net(2, 2, 2, [(0, 0, 1), (0, 0, 0), (1, 1, 0), (1, 0, 1)], [1]))

    def test_the_simplest_nets(self):
        for net in (whole_net(2, 2), none_net(2, 2), single(2, 2, (0, (1, 0))), single(2, 2, (1, ()))):
            self.check_one(net)
        self.assertTrue(other(none_net(1, 1)).accepts((0, (0,) * 300)))
        self.assertFalse(other(whole_net(1, 1)).accepts((0, (0,) * 300)))

    def test_random_nets(self):
        chance = random.Random(8)
        for plainly in (False, True):
            for _ in range(150):
                self.check_one(random_net(chance, chance.randint(1, 3), chance.randint(1, 3), plainly))

    def test_minus(self):
        a = Net(1, 2, 2, [(0, 0, 1), (1, 0, 1), (1, 1, 1)], [1])
        b = Net(1, 2, 3, [(0, 0, 1), (0, 1, 1), (0, 1, 2), (1, 0, 1), (1, 1, 1), (1, 1, 2)], [2])
        for first in (a, b, whole_net(1, 2), none_net(1, 2)):
            for second in (a, b, whole_net(1, 2), none_net(1, 2)):
                self.check_two(first, second)
        self.assertTrue(minus(a, b).accepts((0, (0, 1, 0))))
        self.assertFalse(minus(a, b).accepts((0, (0, 1))))
        self.assertFalse(minus(a, b).accepts((0, (1,))))

    def test_minus_of_random_nets(self):
        chance = random.Random(9)
        for plainly in (False, True):
            for _ in range(100):
                a, b = random_nets(chance, plainly)
                self.check_two(a, b)
                self.check_two(b, a)
                self.check_two(a, a, 3)

    def test_minus_raises_mismatch(self):
        a = none_net(2, 3)
        for b in (none_net(3, 3), none_net(2, 4), none_net(3, 2), none_net(1, 3), none_net(2, 2), whole_net(9, 9)):
            for pair in ((a, b), (b, a)):
                with self.assertRaises(Mismatch) as caught:
                    minus(*pair)
                self.assertIs(type(caught.exception), Mismatch)

    def test_the_largest_nets(self):
        chance = random.Random(10)
        for states, plainly in ((64, True), (1, True), (10, False)):
            nodes = states + 10 if plainly else 10
            lowest = states if plainly else 0
            edges = [
                (chance.randrange(nodes), chance.randrange(128), chance.randrange(lowest, nodes))
                for _ in range(1_000)
            ]
            net = Net(states, 128, nodes, edges, [chance.randrange(nodes)])
            same = deterministic(net)
            others = other(net)
            self.assertEqual([edge[:2] for edge in same.edges], pairs_of(same))
            self.assertTrue(same.is_plain and others.is_plain)
            rest = minus(whole_net(states, 128), net)
            for _ in range(100):
                pile = tuple(chance.randrange(128) for _ in range(chance.randint(0, 4)))
                configuration = (chance.randrange(states), pile)
                verdict = checks.accepts(net, configuration)
                self.assertIs(same.accepts(configuration), verdict)
                self.assertIs(others.accepts(configuration), not verdict)
                self.assertIs(rest.accepts(configuration), not verdict)


if __name__ == "__main__":
    unittest.main()
