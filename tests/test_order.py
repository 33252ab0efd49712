"""The configurations of a set in their order, counted, and the first difference."""

import random
import unittest

from pilereach.errors import Mismatch
from pilereach.net import Net, none_net, plain, single, whole_net
from pilereach.order import apart, count, first, members
from pilereach.product import both, union
from pilereach.subset import deterministic, minus, other
from tests import checks
from tests.samples import copy_of_net, random_net, random_nets


def loop(states, letters, read, ends):
    """A plain net that accepts, from each state, piles over some letters."""
    edges = [(node, letter, states) for node in (*range(states), states) for letter in read]
    return Net(states, letters, states + 1, edges, ends)


class OrderTest(unittest.TestCase):
    def unchanged(self, function, net, *more):
        copy = copy_of_net(net)
        answer = function(net, *more)
        self.assertEqual(net, copy)
        self.assertEqual(function(net, *more), answer)
        return answer


class FirstTest(OrderTest):
    def test_nothing(self):
        self.assertIsNone(first(none_net(2, 2)))
        self.assertIsNone(first(Net(1, 1, 3, [(0, 0, 1), (2, 0, 2)], [2])))
        self.assertIsNone(first(Net(1, 2, 2, [(0, 0, 0), (1, 0, 0)], [1])))

    def test_height_goes_before_pile_and_pile_before_state(self):
        edges = [(0, 1, 3), (1, 0, 3), (2, 0, 4), (4, 0, 3)]
        self.assertEqual(first(Net(3, 2, 5, edges, [3])), (1, (0,)))
        self.assertEqual(first(Net(3, 2, 5, edges, [3, 2])), (2, ()))
        self.assertEqual(first(Net(3, 2, 5, edges + [(0, 0, 3)], [3])), (0, (0,)))
        self.assertEqual(first(Net(3, 2, 5, [(2, 0, 4), (4, 0, 3), (1, 1, 3)], [3])), (1, (1,)))

    def test_the_first_letter_goes_first(self):
        edges = [(0, 0, 1), (1, 9, 2), (0, 1, 3), (3, 0, 2)]
        self.assertEqual(first(Net(1, 10, 4, edges, [2])), (0, (0, 9)))
        # Numbers, not digits: 9 stands before 10.
        self.assertEqual(first(Net(1, 11, 2, [(0, 10, 1), (0, 9, 1)], [1])), (0, (9,)))

    def test_a_first_letter_that_leads_nowhere(self):
        self.assertEqual(first(Net(1, 2, 3, [(0, 0, 1), (1, 0, 1), (0, 1, 2)], [2])), (0, (1,)))
        # After 0 the end is three letters off, after 1 two.
        edges = [(0, 0, 1), (1, 0, 2), (2, 0, 3), (0, 1, 2)]
        self.assertEqual(first(Net(1, 2, 4, edges, [3])), (0, (1, 0)))

    def test_two_states_with_one_pile(self):
        edges = [(0, 1, 3), (1, 0, 3), (2, 0, 3), (3, 1, 4)]
        self.assertEqual(first(Net(3, 2, 5, edges, [4])), (1, (0, 1)))
        edges = [(2, 0, 3), (1, 0, 4), (3, 0, 5), (4, 1, 5)]
        self.assertEqual(first(Net(3, 2, 6, edges, [5])), (2, (0, 0)))

    def test_high_piles_and_nets_of_any_size(self):
        pile = tuple(index % 5 for index in range(300))
        self.assertEqual(self.unchanged(first, single(3, 5, (2, pile))), (2, pile))
        edges = [(node, 0, node + 1) for node in range(5_000)] + [(node, 1, node) for node in range(5_000)]
        self.assertEqual(first(Net(1, 2, 5_001, edges, [5_000])), (0, (0,) * 5_000))

    def test_random_nets(self):
        chance = random.Random(11)
        for _ in range(300):
            net = random_net(chance, chance.randint(1, 3), chance.randint(1, 3), chance.random() < 0.5)
            # A shortest path passes no node twice.
            height = min(net.nodes, 5 if net.letters > 1 else 8)
            right = [c for c in checks.configurations(net.states, net.letters, height) if checks.accepts(net, c)]
            answer = self.unchanged(first, net)
            if right:
                self.assertEqual(answer, right[0])
                self.assertEqual((type(answer), type(answer[1])), (tuple, tuple))
            elif answer is not None:
                self.assertGreater(len(answer[1]), height)
                self.assertTrue(checks.accepts(net, answer))


class MembersTest(OrderTest):
    def test_nothing(self):
        for height in (0, 1, 2, 300):
            self.assertEqual(members(none_net(2, 2), height), [])
            self.assertEqual(count(none_net(2, 2), height), 0)
        self.assertEqual(members(single(2, 2, (0, (1,))), 0), [])
        self.assertEqual(members(single(2, 2, (0, (1,))), 2), [])

    def test_height_0(self):
        net = Net(3, 1, 4, [(1, 0, 3)], [3, 2, 0])
        self.assertEqual(members(net, 0), [(0, ()), (2, ())])
        self.assertEqual(count(net, 0), 2)

    def test_pile_goes_before_state(self):
        self.assertEqual(members(whole_net(2, 2), 1), [(0, (0,)), (1, (0,)), (0, (1,)), (1, (1,))])
        net = Net(3, 11, 4, [(0, 10, 3), (1, 9, 3), (2, 9, 3), (2, 10, 3), (0, 9, 3)], [3])
        expected = [(0, (9,)), (1, (9,)), (2, (9,)), (0, (10,)), (2, (10,))]
        self.assertEqual(members(net, 1), expected)
        self.assertEqual(count(net, 1), 5)

    def test_a_pile_with_several_paths_is_told_once(self):
        net = Net(1, 1, 4, [(0, 0, 1), (0, 0, 2), (1, 0, 3), (2, 0, 3), (0, 0, 3)], [3, 2, 1])
        self.assertEqual(members(net, 1), [(0, (0,))])
        self.assertEqual(members(net, 2), [(0, (0, 0))])
        self.assertEqual((count(net, 1), count(net, 2), count(net, 3)), (1, 1, 0))

    def test_the_list_may_be_changed(self):
        net = whole_net(2, 1)
        answer = members(net, 2)
        self.assertIs(type(answer), list)
        answer.append(5)
        answer[0] = None
        self.assertEqual(members(net, 2), [(0, (0, 0)), (1, (0, 0))])

    def test_heights_of_some_hundreds(self):
        for height in (299, 300, 320):
            self.assertEqual(members(loop(2, 3, (1,), [2]), height), [(0, (1,) * height), (1, (1,) * height)])
            self.assertEqual(count(whole_net(3, 5), height), 3 * 5 ** height)
            self.assertEqual(count(loop(2, 7, (1, 5), [2]), height), 2 * 2 ** height)
        # One 1 somewhere in the pile.
        net = Net(1, 2, 3, [(0, 0, 1), (0, 1, 2), (1, 0, 1), (1, 1, 2), (2, 0, 2)], [2])
        expected = [(0, (0,) * (299 - place) + (1,) + (0,) * place) for place in range(300)]
        self.assertEqual(members(net, 300), expected)
        self.assertEqual(count(net, 300), 300)

    def test_as_many_members_as_may_be(self):
        # Piles with two 1: 4,950 of height 100.
        edges = [(0, 0, 1), (0, 1, 2), (1, 0, 1), (1, 1, 2), (2, 0, 2), (2, 1, 3), (3, 0, 3), (3, 1, 4), (4, 0, 4), (4, 1, 4)]
        net = Net(1, 2, 5, edges, [3])
        answer = members(net, 100)
        self.assertEqual(len(answer), 4_950)
        self.assertEqual(count(net, 100), 4_950)
        self.assertEqual([c[1] for c in answer], sorted([c[1] for c in answer]))
        self.assertTrue(all(sum(pile) == 2 and len(pile) == 100 for _, pile in answer))

    def test_random_nets(self):
        chance = random.Random(12)
        for _ in range(200):
            net = random_net(chance, chance.randint(1, 3), chance.randint(1, 3), chance.random() < 0.5)
            right = [c for c in checks.configurations(net.states, net.letters, 4) if checks.accepts(net, c)]
            for height in range(5):
                expected = [c for c in right if len(c[1]) == height]
                self.assertEqual(self.unchanged(members, net, height), expected)
                self.assertEqual(self.unchanged(count, net, height), len(expected))

    def test_count_at_the_bounds(self):
        chance = random.Random(13)
        edges = [(chance.randrange(74), chance.randrange(128), chance.randrange(64, 74)) for _ in range(3_000)]
        net = Net(64, 128, 74, edges, [70])
        self.assertEqual(count(net, 300) + count(other(net), 300), 64 * 128 ** 300)
        self.assertEqual(count(net, 1), len(members(net, 1)))


class ApartTest(OrderTest):
    def check(self, a, b, expected):
        copies = (copy_of_net(a), copy_of_net(b))
        self.assertEqual(apart(a, b), expected)
        self.assertEqual(apart(b, a), expected)
        self.assertEqual((a, b), copies)

    def test_equal_sets(self):
        net = Net(2, 2, 4, [(0, 0, 1), (1, 0, 2), (2, 1, 2), (0, 1, 3), (3, 0, 3)], [2, 3])
        for same in (net, plain(net), deterministic(net), union(net, net), both(net, net), other(other(net))):
            self.check(net, same, None)
        self.check(none_net(2, 2), none_net(2, 2), None)
        self.check(none_net(2, 2), Net(2, 2, 3, [(0, 0, 2)], []), None)
        self.check(whole_net(2, 2), Net(2, 2, 2, [(a, b, c) for a in (0, 1) for b in (0, 1) for c in (0, 1)], [0, 1]), None)

    def test_the_order_of_differences(self):
        self.check(none_net(2, 2), whole_net(2, 2), (0, ()))
        self.check(Net(2, 2, 2, [], [0]), whole_net(2, 2), (1, ()))
        self.check(single(2, 2, (1, (0,))), single(2, 2, (0, (1,))), (1, (0,)))
        self.check(single(2, 2, (1, (1, 0))), single(2, 2, (0, (1, 0))), (0, (1, 0)))
        self.check(single(2, 2, (1, (1, 1))), single(2, 2, (1, (0, 1, 0))), (1, (1, 1)))
        self.check(single(2, 11, (0, (10, 0))), single(2, 11, (1, (9, 10))), (1, (9, 10)))

    def test_a_difference_behind_many_letters(self):
        pile = tuple(index % 3 for index in range(300))
        self.check(single(2, 3, (1, pile)), none_net(2, 3), (1, pile))

        def circle(many):
            """All piles but those whose height is a multiple of many."""
            return Net(1, 1, many, [(node, 0, (node + 1) % many) for node in range(many)], list(range(1, many)))

        self.check(circle(7), union(circle(7), circle(11)), (0, (0,) * 7))
        self.check(union(circle(7), circle(11)), union(whole_net(1, 1), none_net(1, 1)), (0, ()))
        nonzero = minus(whole_net(1, 1), single(1, 1, (0, ())))
        self.check(both(union(circle(5), circle(6)), nonzero), nonzero, (0, (0,) * 30))

    def test_mismatch(self):
        a = none_net(2, 3)
        for b in (none_net(3, 3), none_net(2, 4), none_net(3, 2), none_net(1, 3), none_net(2, 2), whole_net(9, 9)):
            for pair in ((a, b), (b, a)):
                with self.assertRaises(Mismatch) as caught:
                    apart(*pair)
                self.assertIs(type(caught.exception), Mismatch)

    def test_random_nets(self):
        chance = random.Random(14)
        for _ in range(300):
            a, b = random_nets(chance, chance.random() < 0.3)
            everything = checks.configurations(a.states, a.letters, 4)
            different = [c for c in everything if checks.accepts(a, c) != checks.accepts(b, c)]
            if different:
                self.check(a, b, different[0])
            else:
                # The first difference is the first of what only one accepts.
                self.check(a, b, first(union(minus(a, b), minus(b, a))))
            self.check(a, deterministic(a), None)
            self.check(a, other(a), (0, ()))

    def test_the_largest_nets(self):
        chance = random.Random(15)
        edges = [(chance.randrange(11), chance.randrange(128), chance.randrange(1, 11)) for _ in range(3_000)]
        net = Net(1, 128, 11, edges, [4])
        self.check(net, union(net, net), None)
        answer = apart(net, Net(1, 128, 11, edges, [5]))
        self.assertNotEqual(checks.accepts(net, answer), checks.accepts(Net(1, 128, 11, edges, [5]), answer))


if __name__ == "__main__":
    unittest.main()
