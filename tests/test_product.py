"""What one of two nets accepts, and what both accept."""

import random
import unittest

from pilereach.errors import Mismatch
from pilereach.net import Net, none_net, single, whole_net
from pilereach.product import both, union
from tests import checks
from tests.samples import copy_of_net, random_nets


class ProductTest(unittest.TestCase):
    def check(self, a, b, height=4):
        copies = (copy_of_net(a), copy_of_net(b))
        either = union(a, b)
        together = both(a, b)
        for net in (either, together):
            self.assertIsInstance(net, Net)
            self.assertIs(net.is_plain, True)
            self.assertEqual((net.states, net.letters), (a.states, a.letters))
        for configuration in checks.configurations(a.states, a.letters, height):
            first = checks.accepts(a, configuration)
            second = checks.accepts(b, configuration)
            self.assertIs(either.accepts(configuration), first or second)
            self.assertIs(together.accepts(configuration), first and second)
        self.assertEqual((a, b), copies)
        self.assertEqual((union(a, b), both(a, b)), (either, together))

    def test_two_plain_nets(self):
        # Piles that begin with 0, and piles that end with 1.
        a = Net(1, 2, 2, [(0, 0, 1), (1, 0, 1), (1, 1, 1)], [1])
        b = Net(1, 2, 3, [(0, 0, 1), (0, 1, 1), (0, 1, 2), (1, 0, 1), (1, 1, 1), (1, 1, 2)], [2])
        self.check(a, b)
        self.check(b, a)
        self.check(a, a)
        self.check(b, b)
        self.assertTrue(both(a, b).accepts((0, (0, 0, 1))))
        self.assertFalse(both(a, b).accepts((0, (0, 1, 0))))
        self.assertTrue(union(a, b).accepts((0, (0, 1, 0))))
        self.assertFalse(union(a, b).accepts((0, (1, 1, 0))))

    def test_no_path_goes_over_from_one_net_into_the_other(self):
        a = Net(2, 2, 3, [(0, 0, 1), (1, 1, 2)], [2])
        b = Net(2, 2, 3, [(1, 0, 2)], [2])
        self.check(a, b)
        self.check(b, a)
        self.assertFalse(union(a, b).accepts((0, (0, 0))))
        self.assertTrue(union(a, b).accepts((0, (0, 1))))

    def test_nets_that_are_not_plain(self):
        a = Net(2, 2, 2, [(0, 0, 1), (1, 0, 0), (1, 1, 1)], [0])
        b = Net(2, 2, 3, [(0, 0, 0), (0, 1, 2), (2, 1, 1), (1, 1, 1)], [1, 2])
        for first in (a, b):
            for second in (a, b):
                self.check(first, second)

    def test_whole_and_none(self):
        a = Net(2, 2, 2, [(0, 0, 1), (1, 0, 0), (1, 1, 1)], [0])
        for first in (a, whole_net(2, 2), none_net(2, 2), single(2, 2, (1, (0, 1)))):
            for second in (a, whole_net(2, 2), none_net(2, 2)):
                self.check(first, second)
                self.check(second, first)

    def test_state_nodes_that_are_ends(self):
        self.check(Net(2, 1, 2, [], [0]), Net(2, 1, 2, [], [1]))
        self.check(Net(2, 1, 2, [], [0, 1]), Net(2, 1, 2, [], [1]))

    def test_random_nets(self):
        chance = random.Random(5)
        for plainly in (False, True):
            for _ in range(150):
                a, b = random_nets(chance, plainly)
                self.check(a, b)
                self.check(b, a)
                self.check(a, a, 3)

    def test_results_go_on(self):
        chance = random.Random(6)
        for _ in range(40):
            a, b = random_nets(chance)
            self.check(union(a, b), both(a, b), 3)
            self.check(both(a, union(b, a)), a, 3)

    def test_mismatch(self):
        a = none_net(2, 3)
        for b in (none_net(3, 3), none_net(2, 4), none_net(3, 2), none_net(1, 3), none_net(2, 2), whole_net(9, 9)):
            for function in (union, both):
                for pair in ((a, b), (b, a)):
                    with self.assertRaises(Mismatch) as caught:
                        function(*pair)
                    self.assertIs(type(caught.exception), Mismatch)

    def test_nets_with_other_nodes_fit(self):
        self.check(Net(2, 1, 2, [], [1]), Net(2, 1, 9, [(1, 0, 8)], [8]))

    def test_the_largest_nets(self):
        chance = random.Random(7)

        def large():
            edges = [
                (chance.randrange(100), chance.randrange(128), chance.randrange(64, 100)) for _ in range(3_000)
            ]
            return Net(64, 128, 100, edges, list(range(100)))

        a = large()
        b = large()
        either = union(a, b)
        together = both(a, b)
        for net in (either, together):
            self.assertIs(net.is_plain, True)
        for _ in range(200):
            configuration = (chance.randrange(64), tuple(chance.randrange(128) for _ in range(chance.randint(0, 2))))
            first = checks.accepts(a, configuration)
            second = checks.accepts(b, configuration)
            self.assertIs(either.accepts(configuration), first or second)
            self.assertIs(together.accepts(configuration), first and second)


if __name__ == "__main__":
    unittest.main()
