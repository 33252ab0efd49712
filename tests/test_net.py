"""Nets: fields, ==, what makes a net wrong, what it accepts; the simplest nets."""

import random
import unittest
from unittest import mock

from pilereach.errors import InvalidNet
from pilereach.net import Net, none_net, plain, single, whole_net
from tests import checks
from tests.samples import copy_of_net, random_net

BIG = 10 ** 60

EDGES = [(4, 1, 3), (0, 2, 3), (0, 0, 3), (0, 2, 3), (0, 10, 2), (1, 0, 4), (4, 1, 2)]
ENDS = [4, 1, 4, 0]
SORTED_EDGES = ((0, 0, 3), (0, 2, 3), (0, 10, 2), (1, 0, 4), (4, 1, 2), (4, 1, 3))
SORTED_ENDS = (0, 1, 4)


def small_net():
    return Net(2, 11, 5, EDGES, ENDS)


class Alike:
    """An object of another kind with the fields of a net."""

    def __init__(self, net):
        vars(self).update(vars(net))


class FieldsTest(unittest.TestCase):
    def check_fields(self, net):
        self.assertEqual((net.states, net.letters, net.nodes), (2, 11, 5))
        self.assertEqual((net.edges, net.ends), (SORTED_EDGES, SORTED_ENDS))
        self.assertIs(type(net.edges), tuple)
        self.assertIs(type(net.ends), tuple)
        self.assertTrue(all(type(edge) is tuple for edge in net.edges))

    def test_edges_and_ends_ascend_without_repeats(self):
        chance = random.Random(1)
        for kind in (list, tuple):
            for _ in range(20):
                edges = chance.sample(EDGES, len(EDGES)) + chance.sample(EDGES, 3)
                ends = chance.sample(ENDS, len(ENDS)) + chance.sample(ENDS, 2)
                self.check_fields(Net(2, 11, 5, kind(edges), kind(ends)))
            self.check_fields(Net(2, 11, 5, kind(SORTED_EDGES), kind(SORTED_ENDS)))
            self.check_fields(Net(2, 11, 5, kind(SORTED_EDGES[::-1]), kind(SORTED_ENDS[::-1])))

    def test_numbers_ascend_as_numbers(self):
        net = Net(1, 200, 200, [(100, 0, 5), (20, 0, 5), (3, 100, 5), (3, 20, 5), (3, 20, 100)], [100, 20, 3])
        self.assertEqual(net.edges, ((3, 20, 5), (3, 20, 100), (3, 100, 5), (20, 0, 5), (100, 0, 5)))
        self.assertEqual(net.ends, (3, 20, 100))

    def test_no_edges_and_no_ends(self):
        for kind in (list, tuple):
            net = Net(3, 1, 3, kind(), kind())
            self.assertEqual((net.states, net.letters, net.nodes, net.edges, net.ends), (3, 1, 3, (), ()))
            self.assertIs(type(net.edges), tuple)
            self.assertIs(type(net.ends), tuple)

    def test_parameters_go_by_name(self):
        self.check_fields(Net(ends=ENDS, edges=EDGES, nodes=5, letters=11, states=2))

    def test_lists_that_change_later_do_not_change_the_net(self):
        edges = list(EDGES)
        ends = list(ENDS)
        net = Net(2, 11, 5, edges, ends)
        edges[0] = (0, 0, 0)
        edges.append((0, 5, 0))
        del edges[1]
        ends[0] = 3
        ends.append(2)
        self.check_fields(net)
        self.assertTrue(net.accepts((1, (0,))))
        self.assertFalse(net.accepts((0, (5,))))
        ends.clear()
        edges.clear()
        self.check_fields(net)
        self.assertTrue(net.accepts((1, (0,))))

    def test_lists_that_are_passed_are_not_changed(self):
        edges = list(EDGES)
        ends = list(ENDS)
        Net(2, 11, 5, edges, ends).accepts((0, (0,)))
        self.assertEqual((edges, ends), (EDGES, ENDS))


class EqualNetsTest(unittest.TestCase):
    def check_equal(self, a, b):
        self.assertIs(a == b, True)
        self.assertIs(b == a, True)
        self.assertIs(a != b, False)

    def check_unequal(self, a, b):
        self.assertIs(a == b, False)
        self.assertIs(b == a, False)
        self.assertIs(a != b, True)

    def test_equal_parts_in_another_order(self):
        self.check_equal(small_net(), small_net())
        self.check_equal(small_net(), Net(2, 11, 5, tuple(EDGES[::-1]), tuple(ENDS[::-1])))
        self.check_equal(small_net(), Net(2, 11, 5, EDGES + EDGES, ENDS + ENDS))
        self.check_equal(small_net(), Net(2, 11, 5, SORTED_EDGES, SORTED_ENDS))

    def test_one_number_other(self):
        self.check_unequal(small_net(), Net(1, 11, 5, EDGES, ENDS))
        self.check_unequal(small_net(), Net(3, 11, 5, EDGES, ENDS))
        self.check_unequal(small_net(), Net(2, 12, 5, EDGES, ENDS))
        self.check_unequal(small_net(), Net(2, 11, 6, EDGES, ENDS))

    def test_one_edge_more_less_or_other(self):
        self.check_unequal(small_net(), Net(2, 11, 5, EDGES + [(4, 4, 4)], ENDS))
        for index in range(len(SORTED_EDGES)):
            edges = list(SORTED_EDGES)
            node, letter, goal = edges.pop(index)
            self.check_unequal(small_net(), Net(2, 11, 5, edges, ENDS))
            for other in ((node, letter, (goal + 2) % 5), (node, 9, goal), ((node + 2) % 5, letter, goal)):
                self.check_unequal(small_net(), Net(2, 11, 5, edges + [other], ENDS))

    def test_one_end_more_less_or_other(self):
        self.check_unequal(small_net(), Net(2, 11, 5, EDGES, ENDS + [3]))
        self.check_unequal(small_net(), Net(2, 11, 5, EDGES, [0, 1]))
        self.check_unequal(small_net(), Net(2, 11, 5, EDGES, [0, 1, 3]))
        self.check_unequal(small_net(), Net(2, 11, 5, EDGES, []))

    def test_objects_of_other_kinds(self):
        net = small_net()
        others = (None, 0, "", (2, 11, 5, SORTED_EDGES, SORTED_ENDS), [], {}, Net, Alike(net), object())
        for other in others:
            with self.subTest(other=repr(other)):
                self.check_unequal(net, other)
        self.assertIs(net == mock.ANY, False)


class InvalidNetTest(unittest.TestCase):
    def check_wrong(self, *parts):
        with self.assertRaises(InvalidNet) as caught:
            Net(*parts)
        self.assertIs(type(caught.exception), InvalidNet)

    def test_states_and_letters_below_1(self):
        for many in (0, -1, -BIG):
            with self.subTest(many=many):
                self.check_wrong(many, 3, 5, [], [])
                self.check_wrong(2, many, 5, [], [])
                self.check_wrong(many, 3, 5, [(1, 1, 1)], [1])
                self.check_wrong(2, many, 2, [], [1])
                self.check_wrong(many, many, many, [], [])

    def test_fewer_nodes_than_states(self):
        for nodes in (1, 0, -1, -BIG):
            with self.subTest(nodes=nodes):
                self.check_wrong(2, 3, nodes, [], [])
        self.check_wrong(BIG, 3, BIG - 1, [], [])
        self.check_wrong(2, 3, 1, [(0, 0, 0)], [0])

    def test_nodes_and_letters_of_edges(self):
        wrong = [(node, 0, 0) for node in (-1, -BIG, 5, 6, BIG)]
        wrong += [(0, 0, node) for node in (-1, -BIG, 5, 6, BIG)]
        wrong += [(0, letter, 0) for letter in (-1, -BIG, 3, 4, BIG)]
        right = [(4, 2, 4), (0, 0, 0), (2, 1, 3)]
        for edge in wrong:
            with self.subTest(edge=edge):
                for kind in (list, tuple):
                    self.check_wrong(2, 3, 5, kind([edge]), [])
                    for place in range(4):
                        self.check_wrong(2, 3, 5, kind(right[:place] + [edge] + right[place:]), [0])

    def test_letters_are_not_taken_for_nodes(self):
        self.check_wrong(1, 9, 4, [(8, 0, 0)], [])
        self.check_wrong(1, 9, 4, [(0, 0, 8)], [])
        self.check_wrong(1, 2, 4, [(0, 3, 0)], [])

    def test_ends_that_are_no_nodes(self):
        for end in (-1, -BIG, 5, 6, BIG):
            with self.subTest(end=end):
                for kind in (list, tuple):
                    self.check_wrong(2, 9, 5, [], kind([end]))
                    self.check_wrong(2, 9, 5, [(0, 0, 0)], kind([0, end, 4]))
                    self.check_wrong(2, 9, 5, [(0, 0, 0)], kind([end, 0, end]))

    def test_the_greatest_numbers_that_are_right(self):
        net = Net(2, 3, 5, [(4, 2, 4), (0, 0, 0)], [4, 0])
        self.assertEqual(net.edges, ((0, 0, 0), (4, 2, 4)))
        self.assertEqual(Net(1, 1, 1, [(0, 0, 0)], [0]).ends, (0,))
        self.assertEqual(Net(5, 1, 5, [], [4]).nodes, 5)
        net = Net(BIG, BIG, BIG, [(BIG - 1, BIG - 1, BIG - 1)], [BIG - 1])
        self.assertTrue(net.accepts((BIG - 1, (BIG - 1, BIG - 1))))
        self.assertFalse(net.accepts((0, ())))

    def test_the_bounds_and_beyond_raise_no_error(self):
        chance = random.Random(2)
        edges = [(chance.randrange(120), chance.randrange(140), chance.randrange(120)) for _ in range(4_000)]
        net = Net(70, 140, 120, edges, list(range(120)))
        self.assertEqual(net.edges, tuple(sorted(set(edges))))
        self.assertEqual(net.ends, tuple(range(120)))


class AcceptsTest(unittest.TestCase):
    def check(self, net, right, wrong):
        for _ in range(2):
            for configuration in right:
                with self.subTest(right=configuration):
                    self.assertIs(net.accepts(configuration), True)
            for configuration in wrong:
                with self.subTest(wrong=configuration):
                    self.assertIs(net.accepts(configuration), False)

    def test_the_empty_pile(self):
        self.check(Net(3, 1, 4, [(1, 0, 3)], [0, 3]), [(0, ()), (1, (0,))], [(1, ()), (2, ())])

    def test_several_edges_with_one_letter(self):
        # Both ways must be gone: one ends after 0 1, the other one after 0 0.
        net = Net(1, 2, 5, [(0, 0, 1), (0, 0, 2), (1, 1, 3), (2, 0, 4)], [3, 4])
        self.check(net, [(0, (0, 1)), (0, (0, 0))], [(0, ()), (0, (0,)), (0, (1,)), (0, (1, 0)), (0, (0, 1, 0))])

    def test_circles(self):
        # Piles over 0 and 1 with an odd number of 1.
        net = Net(1, 2, 3, [(0, 0, 1), (0, 1, 2), (1, 0, 1), (1, 1, 2), (2, 0, 2), (2, 1, 1)], [2])
        self.check(net, [(0, (1,)), (0, (0, 1, 0)), (0, (1, 1, 1))], [(0, ()), (0, (0,)), (0, (1, 0, 1))])

    def test_edges_that_end_at_state_nodes(self):
        net = Net(2, 2, 3, [(0, 0, 1), (1, 1, 0), (1, 0, 2), (0, 1, 0)], [0, 2])
        right = [(0, ()), (0, (0, 1)), (0, (0, 0)), (1, (1,)), (1, (0,)), (0, (1, 1)), (1, (1, 1, 0, 0))]
        self.check(net, right, [(1, ()), (0, (0,)), (0, (0, 0, 0)), (1, (1, 0))])

    def test_an_end_is_needed_at_the_end_of_the_pile(self):
        net = Net(1, 1, 3, [(0, 0, 1), (1, 0, 2)], [1])
        self.check(net, [(0, (0,))], [(0, ()), (0, (0, 0)), (0, (0, 0, 0))])
        self.check(Net(1, 1, 2, [(0, 0, 1)], []), [], [(0, ()), (0, (0,))])

    def test_high_piles(self):
        net = Net(1, 2, 3, [(0, 0, 1), (1, 0, 0), (0, 1, 2), (2, 0, 2), (2, 1, 2)], [0])
        self.check(net, [(0, (0,) * 300), (0, (0,) * 400)], [(0, (0,) * 299), (0, (0,) * 298 + (1, 0))])
        many = Net(1, 1, 100, [(a, 0, b) for a in range(50) for b in range(40, 100)], [99])
        self.check(many, [(0, (0,) * 300)], [(0, ())])

    def test_against_paths_followed_edge_by_edge(self):
        chance = random.Random(3)
        for _ in range(150):
            net = random_net(chance, chance.randint(1, 3), chance.randint(1, 3), False)
            for configuration in checks.configurations(net.states, net.letters, 4):
                self.assertIs(net.accepts(configuration), checks.accepts(net, configuration))


class PlainTest(unittest.TestCase):
    def test_is_plain(self):
        self.assertIs(Net(2, 1, 3, [], []).is_plain, True)
        self.assertIs(Net(2, 1, 3, [(0, 0, 2), (1, 0, 2), (2, 0, 2)], [0, 1, 2]).is_plain, True)
        for goal in (0, 1):
            self.assertIs(Net(2, 1, 3, [(2, 0, goal)], []).is_plain, False)
            self.assertIs(Net(2, 1, 3, [(0, 0, 2), (2, 0, 2), (0, 0, goal)], [2]).is_plain, False)
        net = small_net()
        self.assertEqual([net.is_plain, net.is_plain], [True, True])

    def check_plain(self, net):
        copy = copy_of_net(net)
        made = plain(net)
        self.assertIsInstance(made, Net)
        self.assertIs(made.is_plain, True)
        self.assertEqual((made.states, made.letters), (net.states, net.letters))
        for configuration in checks.configurations(net.states, net.letters, 5):
            self.assertIs(made.accepts(configuration), checks.accepts(net, configuration))
        self.assertEqual(net, copy)
        self.assertEqual(plain(net), made)

    def test_plain_of_nets_that_are_not(self):
        self.check_plain(Net(1, 2, 1, [(0, 0, 0)], [0]))
        self.check_plain(Net(1, 2, 1, [(0, 0, 0)], []))
        self.check_plain(Net(2, 2, 3, [(0, 0, 1), (1, 1, 0), (1, 0, 2), (0, 1, 0)], [0, 2]))
        self.check_plain(Net(2, 2, 2, [(0, 0, 1), (1, 1, 0)], [1]))

    def test_plain_of_plain_nets(self):
        self.check_plain(Net(1, 2, 2, [(0, 0, 1), (1, 1, 1)], [1]))
        self.check_plain(Net(2, 1, 2, [], [1]))

    def test_plain_of_random_nets(self):
        chance = random.Random(4)
        for _ in range(200):
            self.check_plain(random_net(chance, chance.randint(1, 3), chance.randint(1, 2), False))

    def test_plain_of_the_largest_nets(self):
        chance = random.Random(16)
        edges = [(chance.randrange(100), chance.randrange(128), chance.randrange(100)) for _ in range(3_000)]
        net = Net(64, 128, 100, edges, list(range(0, 100, 2)))
        made = plain(net)
        self.assertIs(made.is_plain, True)
        found = [(state, (letter,)) for state, letter, _ in edges if state < 64]
        found += [(state, (a, b)) for state, (a,) in found for node, b, _ in edges[:100]]
        for configuration in chance.sample(found, 200):
            self.assertIs(made.accepts(configuration), checks.accepts(net, configuration))


class SimpleNetsTest(unittest.TestCase):
    def test_whole_and_none(self):
        for states, letters in ((1, 1), (1, 3), (3, 1), (2, 2)):
            whole = whole_net(states, letters)
            none = none_net(states, letters)
            for net in (whole, none):
                self.assertEqual((net.states, net.letters, net.is_plain), (states, letters, True))
            for configuration in checks.configurations(states, letters, 4):
                self.assertIs(whole.accepts(configuration), True)
                self.assertIs(none.accepts(configuration), False)
            self.assertEqual(whole, whole_net(states=states, letters=letters))
            self.assertEqual(none, none_net(states=states, letters=letters))

    def test_whole_and_none_at_the_bounds(self):
        whole = whole_net(64, 128)
        pile = tuple(index % 128 for index in range(300))
        for state in (0, 63):
            self.assertIs(whole.accepts((state, pile)), True)
            self.assertIs(whole.accepts((state, ())), True)
            self.assertIs(none_net(64, 128).accepts((state, pile)), False)
            self.assertIs(none_net(64, 128).accepts((state, ())), False)

    def test_single_of_the_empty_pile(self):
        self.assertEqual(single(1, 1, (0, ())), Net(1, 1, 1, [], [0]))
        self.assertEqual(single(3, 2, (1, ())), Net(3, 2, 3, [], [1]))

    def test_single_of_one_letter(self):
        self.assertEqual(single(1, 1, (0, (0,))), Net(1, 1, 2, [(0, 0, 1)], [1]))
        self.assertEqual(single(3, 9, (2, (8,))), Net(3, 9, 4, [(2, 8, 3)], [3]))

    def test_single_of_more_letters(self):
        self.assertEqual(single(3, 9, (0, (8, 7))), Net(3, 9, 5, [(0, 8, 3), (3, 7, 4)], [4]))
        made = single(letters=9, states=3, configuration=(1, (5, 5, 0, 2)))
        self.assertEqual((made.states, made.letters, made.nodes), (3, 9, 7))
        self.assertEqual(made.edges, ((1, 5, 3), (3, 5, 4), (4, 0, 5), (5, 2, 6)))
        self.assertEqual(made.ends, (6,))

    def test_single_of_a_high_pile(self):
        pile = tuple(index % 7 for index in range(310))
        made = single(5, 7, (4, pile))
        nodes, edges, ends = checks.single_parts(5, (4, pile))
        self.assertEqual((made.nodes, made.edges, made.ends), (nodes, tuple(sorted(edges)), ends))
        self.assertTrue(made.accepts((4, pile)))
        self.assertFalse(made.accepts((3, pile)))
        self.assertFalse(made.accepts((4, pile[:-1])))
        self.assertFalse(made.accepts((4, pile + (0,))))

    def test_single_accepts_this_configuration_alone(self):
        everything = checks.configurations(2, 2, 4)
        for configuration in checks.configurations(2, 2, 3):
            made = single(2, 2, configuration)
            self.assertIs(made.is_plain, True)
            self.assertEqual([other for other in everything if made.accepts(other)], [configuration])


if __name__ == "__main__":
    unittest.main()
