"""Which papers the judge takes on runs into a set and out of one."""

import random
import unittest

from pilereach.ahead import least
from pilereach.behind import came
from pilereach.errors import Mismatch, NotPlain
from pilereach.judge import takes_came, takes_least
from pilereach.machine import Machine, Step
from pilereach.net import Net, none_net, single, whole_net
from tests import checks, examples, papers
from tests.papers import exchanged, without
from tests.programs import copy_of
from tests.samples import copy_of_machine, copy_of_net, random_machine, random_net

BIG = papers.BIG
VERDICTS = (True, False)
WEIGHTS = (None, 0, 1, 8, 9, 10, -9, BIG, -BIG)


class JudgeCase(unittest.TestCase):
    """Asks the judge, and checks that nothing that is passed is changed."""

    def takes(self, example, answer, paper):
        judge = takes_least if example in (examples.Least, examples.Never) else takes_came
        return self.ask(judge, example.machine, example.net, example.configuration, answer, paper)

    def ask(self, judge, machine, net, configuration, answer, paper):
        copies = (copy_of_machine(machine), copy_of_net(net), copy_of(configuration), answer, copy_of(paper))
        verdict = judge(machine, net, configuration, answer, paper)
        self.assertIs(type(verdict), bool)
        self.assertEqual((machine, net, configuration, answer, paper), copies)
        return verdict

    def check(self, expected, example, *parts):
        """Check an answer to a paper of the example's form with these parts."""
        paper = (example.paper[0],) + parts
        self.assertIs(self.takes(example, example.answer, paper), expected, paper)
        slow = checks.is_least if example in (examples.Least, examples.Never) else checks.is_came
        answer = (example.answer, paper)
        self.assertIs(slow(example.machine, example.net, example.configuration, answer), expected, paper)

    def check_changes(self, example, least_refused):
        """Check each change of each part, against the checks of the tests."""
        slow = checks.is_least if example in (examples.Least, examples.Never) else checks.is_came
        refused = 0
        for paper in papers.changes(example.paper):
            right = slow(example.machine, example.net, example.configuration, (example.answer, paper))
            self.assertIs(self.takes(example, example.answer, paper), right, paper)
            refused += not right
        self.assertGreater(refused, least_refused)


class LeastPaperTest(JudgeCase):
    example = examples.Least
    rows, way, numbers = examples.Least.paper[1:]

    def rows_are(self, expected, *rows):
        self.check(expected, examples.Least, rows, self.way, self.numbers)

    def way_is(self, expected, *way):
        self.check(expected, examples.Least, self.rows, way, self.numbers)

    def numbers_are(self, expected, numbers):
        self.check(expected, examples.Least, self.rows, self.way, tuple(numbers))

    def test_the_paper_with_each_answer(self):
        for weight in WEIGHTS:
            self.assertIs(self.takes(examples.Least, weight, examples.Least.paper), weight == 9)

    def test_a_bound_and_a_way_must_both_have_the_weight(self):
        low = tuple((edge, 8 if edge == (0, 0, 2) else number) for edge, number in self.numbers)
        self.assertTrue(checks.are_closed(examples.Least.machine, examples.Least.net, low))
        none = tuple((edge, 0) for edge, _ in self.numbers)
        self.assertTrue(checks.are_closed(examples.Least.machine, examples.Least.net, none))
        for weight in WEIGHTS:
            self.assertIs(self.takes(examples.Least, weight, ("least", self.rows, self.way, low)), False)
            self.assertIs(self.takes(examples.Least, weight, ("least", self.rows, self.way, none)), False)
        # A way that is dearer than need be.
        machine = Machine(2, 1, [Step(0, 0, 1, (), 5), Step(0, 0, 1, (), 7)])
        net = Net(2, 1, 2, [], [1])
        for step, number, weight, expected in (
            (0, 5, 5, True),
            (1, 5, 7, False),
            (1, 5, 5, False),
            (1, 7, 7, False),
            (0, 4, 5, False),
            (0, 4, 4, False),
            (0, 6, 5, False),
        ):
            paper = ("least", ((step, ()),), (("row", 0),), (((0, 0, 1), number),))
            self.assertIs(self.ask(takes_least, machine, net, (0, (0,)), weight, paper), expected)

    def test_right_papers_of_others(self):
        one, two, three = self.rows
        net, row = ("net", (1, 2, 2)), ("row", 0)
        self.rows_are(True, one, two, three, (3, ()), three, one)
        # Doubled, and then the second one of each is used.
        doubled = (one, one, two, (2, (net,)), (0, (row, ("row", 2))), (0, (("row", 1), ("row", 3))))
        self.check(True, examples.Least, doubled, (("row", 5), self.way[1]), self.numbers)
        # A number that bounds nothing else may be less; others may be added.
        for number in (90, 89, 1, 0):
            self.numbers_are(True, exchanged(self.numbers, 0, ((0, 0, 1), number)))
        for number in (0, 5, BIG):
            self.numbers_are(True, self.numbers + (((2, 1, 0), number),))
            self.numbers_are(True, sorted(self.numbers + (((1, 0, 2), 9 + number),)))
            self.numbers_are(True, sorted(self.numbers + (((0, 2, 1), number),)))

    def test_wrong_steps_of_rows(self):
        one, two, three = self.rows
        for step in (0, 2, 3, 4, -1, -3, BIG, -BIG):
            self.rows_are(False, (step, ()), two, three)
        for step in (0, 1, 3, 4, -2, BIG, -BIG):
            self.rows_are(False, one, (step, two[1]), three)
        for step in (1, 2, 3, 4, -4, BIG, -BIG):
            self.rows_are(False, one, two, (step, three[1]))
        # A row that the way does not need must be right, too.
        for step in (4, -1, BIG):
            self.rows_are(False, one, two, three, (step, ()))

    def test_wrong_numbers_of_parts(self):
        one, two, three = self.rows
        row = ("row", 0)
        self.rows_are(False, (1, (row,)), two, three)
        self.rows_are(False, (1, (("net", (1, 2, 2)),)), two, three)
        self.rows_are(False, one, (2, ()), three)
        self.rows_are(False, one, (2, two[1] * 2), three)
        self.rows_are(False, one, two, (0, ()))
        self.rows_are(False, one, two, (0, three[1][:1]))
        self.rows_are(False, one, two, (0, three[1][1:]))
        self.rows_are(False, one, two, (0, three[1] + (row,)))
        self.rows_are(False, one, two, three, (0, (row,)))

    def test_wrong_indexes_of_parts(self):
        one, two, three = self.rows
        # Its own, later ones, none, and the same rows counted from the end.
        for index in (1, 2, 3, 4, -1, -2, -3, BIG, -BIG):
            self.rows_are(False, one, two, (0, (("row", index), ("row", 1))))
        for index in (0, 2, 3, 4, -1, -2, BIG, -BIG):
            self.rows_are(False, one, two, (0, (("row", 0), ("row", index))))
        # Its own index, and a later one, of rows that would fit.
        machine = Machine(1, 1, [Step(0, 0, 0, (0,), 0), Step(0, 0, 0, (), 0)])
        for index, expected in ((0, True), (1, False), (2, False), (-1, False), (-2, False), (-3, False)):
            rows = ((1, ()), (0, (("row", index),)), (1, ()))
            paper = ("least", rows, (("row", 1),), (((0, 0, 0), 0),))
            self.assertIs(self.ask(takes_least, machine, Net(1, 1, 1, [], [0]), (0, (0,)), 0, paper), expected)

    def test_wrong_edges_of_parts(self):
        one, two, three = self.rows
        self.rows_are(False, two, one, three)
        self.rows_are(False, three, one, two)
        self.rows_are(False, one, two, (0, three[1][::-1]))
        for edge in ((1, 1, 2), (2, 0, 2), (1, 2, 1), (1, 2, BIG), (-1, 2, 2), (1, -1, 2), (1, 2, -1), (BIG, BIG, BIG)):
            self.rows_are(False, one, (2, (("net", edge),)), three)
            self.rows_are(False, one, two, (0, (("row", 0), ("net", edge))))
            self.rows_are(False, one, two, (0, (("net", edge), ("row", 1))))

    def test_wrong_ways(self):
        first, second = self.way
        self.way_is(False)
        self.way_is(False, first)
        self.way_is(False, second)
        self.way_is(False, second, first)
        self.way_is(False, first, first)
        self.way_is(False, first, second, second)
        for index in (0, 1, 3, -1, -2, BIG, -BIG):
            self.way_is(False, ("row", index), second)
        for edge in ((0, 0, 2), (2, 1, 2), (2, 0, 1), (2, 0, 3), (-1, 0, 2), (2, 0, BIG), (1, 2, 2)):
            self.way_is(False, first, ("net", edge))
            self.way_is(False, ("net", edge), second)

    def test_ways_must_begin_at_the_state_and_end_at_an_end(self):
        for begin, expected in ((0, True), (1, False)):
            for end in range(4):
                net = Net(2, 1, 4, [(0, 0, 2), (2, 0, 3)], [end])
                numbers = (((0, 0, 2), 0), ((2, 0, 3), 0))
                for way in ((("net", (0, 0, 2)), ("net", (2, 0, 3))), (("net", (2, 0, 3)), ("net", (2, 0, 3)))):
                    paper = ("least", (), way, numbers)
                    right = expected and end == 3 and way[0] != way[1]
                    verdict = self.ask(takes_least, Machine(2, 1, []), net, (begin, (0, 0)), 0, paper)
                    self.assertIs(verdict, right)

    def test_the_empty_pile(self):
        machine = Machine(2, 1, [])
        for ends in ((), (0,), (1,), (0, 1)):
            net = Net(2, 1, 2, [], ends)
            for state in (0, 1):
                right = state in ends
                paper = ("least", (), (), ())
                self.assertIs(self.ask(takes_least, machine, net, (state, ()), 0, paper), right)
                self.assertIs(self.ask(takes_least, machine, net, (state, ()), None, ("never", ())), not right)
                paper = ("least", (), (("net", (0, 0, 0)),), ())
                self.assertIs(self.ask(takes_least, machine, net, (state, ()), 0, paper), False)

    def test_wrong_numbers(self):
        numbers = self.numbers
        self.numbers_are(False, ())
        self.numbers_are(False, numbers[::-1])
        self.numbers_are(False, numbers[1:] + numbers[:1])
        for index, (edge, number) in enumerate(numbers):
            self.numbers_are(False, without(numbers, index))
            self.numbers_are(False, numbers[:index] + numbers[index:index + 1] + numbers[index:])
            self.numbers_are(False, exchanged(numbers, index, (edge, number + 1)))
            self.numbers_are(False, exchanged(numbers, index, (edge, BIG)))
            self.numbers_are(False, exchanged(numbers, index, (edge, -1)))
            self.numbers_are(False, exchanged(numbers, index, (edge, -BIG)))
            if index > 0:
                self.numbers_are(False, exchanged(numbers, index, (edge, number - 1)))

    def test_an_edge_twice_with_two_numbers(self):
        for first, second in ((9, 10), (10, 9), (9, 9), (9, 8), (0, 9)):
            self.numbers_are(False, self.numbers[:1] + (((0, 0, 2), first), ((0, 0, 2), second)) + self.numbers[2:])

    def test_numbers_on_edges_that_are_out_of_range(self):
        for edge in ((-1, 0, 0), (0, -1, 0), (0, 0, -1), (3, 0, 0), (0, 3, 0), (0, 0, 3), (BIG, 0, 0), (0, BIG, 0), (0, 0, BIG)):
            for number in (0, 90, BIG):
                self.numbers_are(False, sorted(self.numbers + ((edge, number),)))
        # The same within the range.
        for edge in ((2, 2, 2), (2, 0, 0), (2, 0, 1)):
            self.numbers_are(True, sorted(self.numbers + ((edge, 90),)))

    def test_closed_numbers_by_the_letters_that_steps_lay(self):
        net = Net(2, 2, 3, [(1, 1, 2)], [2])
        for laid, numbers, expected in (
            ((), (((0, 0, 1), 5), ((1, 1, 2), 0)), True),
            ((), (((0, 0, 1), 4), ((1, 1, 2), 0)), True),
            ((), (((0, 0, 1), 6), ((1, 1, 2), 0)), False),
            ((), (((0, 0, 0), 0), ((1, 1, 2), 0)), False),
            ((), (((1, 1, 2), 0),), False),
            ((1,), (((0, 0, 2), 5), ((1, 1, 2), 0)), True),
            ((1,), (((0, 0, 2), 6), ((1, 1, 2), 0)), False),
            ((1,), (((1, 1, 2), 0),), False),
            ((1,), (((0, 0, 2), 5), ((1, 1, 0), 3), ((1, 1, 2), 0)), False),
            ((1,), (((0, 0, 0), 8), ((0, 0, 2), 5), ((1, 1, 0), 3), ((1, 1, 2), 0)), True),
            ((1,), (((0, 0, 0), 9), ((0, 0, 2), 5), ((1, 1, 0), 3), ((1, 1, 2), 0)), False),
            ((0,), (((1, 1, 2), 0),), True),
            ((1, 1), (((1, 1, 2), 0),), True),
            ((1, 1), (((1, 1, 2), 0), ((2, 1, 1), 3)), False),
            ((1, 1), (((0, 0, 1), 8), ((1, 1, 2), 0), ((2, 1, 1), 3)), True),
            ((1, 1), (((0, 0, 1), 9), ((1, 1, 2), 0), ((2, 1, 1), 3)), False),
            ((1, 0), (((1, 1, 2), 0), ((2, 1, 1), 3)), True),
        ):
            machine = Machine(2, 2, [Step(0, 0, 1, laid, 5)])
            paper = ("never", numbers)
            self.assertIs(self.ask(takes_least, machine, net, (0, (1,)), None, paper), expected, (laid, numbers))
            self.assertIs(checks.are_closed(machine, net, numbers), expected)

    def test_each_change_of_each_part(self):
        self.check_changes(examples.Least, 400)


class NeverPaperTest(JudgeCase):
    numbers = examples.Never.numbers

    def test_the_paper_with_each_answer(self):
        for weight in WEIGHTS:
            self.assertIs(self.takes(examples.Never, weight, examples.Never.paper), weight is None)

    def test_a_bound_must_be_none(self):
        for configuration in checks.configurations(2, 3, 3):
            bound = checks.bound_of(examples.Never.net, self.numbers, configuration)
            verdict = self.ask(takes_least, examples.Never.machine, examples.Never.net, configuration, None, examples.Never.paper)
            self.assertIs(verdict, bound is None)

    def test_right_papers_of_others(self):
        self.check(True, examples.Never, tuple((edge, 0) for edge, _ in self.numbers))
        self.check(True, examples.Never, self.numbers + (((2, 1, 0), BIG),))
        self.check(False, examples.Never, tuple(sorted(self.numbers + (((1, 0, 2), BIG),))))

    def test_wrong_numbers(self):
        self.check(False, examples.Never, ())
        self.check(False, examples.Never, self.numbers[::-1])
        for index, (edge, number) in enumerate(self.numbers):
            self.check(False, examples.Never, without(self.numbers, index))
            self.check(False, examples.Never, self.numbers[:index] + self.numbers[index:index + 1] + self.numbers[index:])
            for other in (number + 1, BIG, -1, -BIG):
                self.check(False, examples.Never, exchanged(self.numbers, index, (edge, other)))

    def test_each_change_of_each_part(self):
        self.check_changes(examples.Never, 200)


class CamePaperTest(JudgeCase):
    begin, rows, way = examples.Came.paper[1:]

    def begin_is(self, expected, state, *pile):
        self.check(expected, examples.Came, (state, pile), self.rows, self.way)

    def rows_are(self, expected, *rows):
        self.check(expected, examples.Came, self.begin, rows, self.way)

    def way_is(self, expected, *way):
        self.check(expected, examples.Came, self.begin, self.rows, way)

    def test_the_paper_with_each_verdict(self):
        for verdict in VERDICTS:
            self.assertIs(self.takes(examples.Came, verdict, examples.Came.paper), verdict)

    def test_right_papers_of_others(self):
        self.check(True, examples.Came, self.begin, self.rows[:2], (("row", 1), self.way[1]))
        self.rows_are(True, *self.rows, (1, ()), self.rows[3])
        doubled = self.rows[:1] * 2 + (
            (0, (("row", 1), ("net", (1, 2, 2)))),
            (2, (("row", 2),)),
            (2, (("row", 2),)),
            (0, (("row", 0), ("row", 4))),
        )
        self.check(True, examples.Came, self.begin, doubled, (("row", 5), self.way[1]))

    def test_wrong_begins(self):
        self.begin_is(True, 0, 0, 1)
        # The net accepts this one, but the way is none for it.
        self.assertTrue(examples.Came.net.accepts((0, (0, 0))))
        self.begin_is(False, 0, 0, 0)
        for state in (1, 2, -1, -2, BIG, -BIG):
            self.begin_is(False, state, 0, 1)
        for letter in (2, 3, -1, -2, -3, BIG, -BIG):
            self.begin_is(False, 0, letter, 1)
            self.begin_is(False, 0, 0, letter)
        self.begin_is(False, 0)
        self.begin_is(False, 0, 0)
        self.begin_is(False, 0, 0, 1, 1)
        # The way is right for this begin, but the net does not accept it.
        way = (("net", (1, 2, 2)), ("net", (2, 1, 3)))
        self.check(False, examples.Came, (1, (2, 1)), (), way)
        self.assertIs(takes_came(examples.Came.machine, single(2, 3, (1, (2, 1))), (1, (2, 1)), True, ("came", (1, (2, 1)), (), way)), True)

    def test_a_begin_out_of_range_with_a_way_that_seems_to_fit(self):
        # Node 2 stands behind the first letter; no state has this number.
        net = whole_net(2, 1)
        for state, expected in ((0, True), (2, False), (-1, False), (BIG, False)):
            paper = ("came", (state, ()), (), ())
            self.assertIs(self.ask(takes_came, Machine(2, 1, []), net, (0, ()), True, paper), expected)
        goal = (0, (0, 0))
        paper = ("came", (2, (0,)), (), (("net", (2, 0, 3)),))
        self.assertIs(self.ask(takes_came, Machine(2, 1, []), net, goal, True, paper), False)
        for letter in (1, -1, BIG):
            paper = ("came", (0, (letter,)), (), (("net", (0, 0, 2)),))
            self.assertIs(self.ask(takes_came, Machine(2, 1, []), net, (0, (0,)), True, paper), False)

    def test_edges_are_those_of_the_single_configuration(self):
        # (2, 1, 3) is an edge of both nets, (2, 0, 3) only of the one that is passed.
        self.way_is(False, ("net", (0, 0, 2)), self.way[1])
        self.way_is(False, self.way[0], ("net", (2, 0, 3)))
        self.rows_are(False, *self.rows[:1], (0, (("row", 0), ("net", (2, 0, 3)))), *self.rows[2:])

    def test_wrong_rows(self):
        one, two, three, four = self.rows
        for step in (0, 2, 3, 4, 5, -4, BIG, -BIG):
            self.rows_are(False, (step, ()), two, three, four)
        for step in (0, 1, 3, 4, 5, -3, BIG, -BIG):
            self.rows_are(False, one, two, (step, three[1]), four)
        for index in (1, 2, 3, 4, -1, -3, BIG, -BIG):
            self.rows_are(False, one, two, three, (0, (("row", index), ("row", 2))))
        for index in (0, 2, 3, 4, -1, -2, -3, BIG, -BIG):
            self.rows_are(False, one, two, (2, (("row", index),)), four)
        self.rows_are(False, two, one, three, four)
        self.rows_are(False, one, (0, two[1][:1]), three, four)
        self.rows_are(False, one, (0, two[1] + two[1][:1]), three, four)

    def test_wrong_ways(self):
        first, second = self.way
        self.way_is(False)
        self.way_is(False, first)
        self.way_is(False, second, first)
        self.way_is(False, first, second, second)
        for index in (0, 2, 4, -1, BIG, -BIG):
            self.way_is(False, ("row", index), second)

    def test_each_change_of_each_part(self):
        self.check_changes(examples.Came, 250)


class StaysPaperTest(JudgeCase):
    nodes, edges, ends = examples.Stays.paper[1:]

    def edges_are(self, expected, edges, nodes=5):
        self.check(expected, examples.Stays, nodes, tuple(edges), self.ends)

    def ends_are(self, expected, *ends):
        self.check(expected, examples.Stays, self.nodes, self.edges, ends)

    def test_the_paper_with_each_verdict(self):
        for verdict in VERDICTS:
            self.assertIs(self.takes(examples.Stays, verdict, examples.Stays.paper), not verdict)

    def test_right_papers_of_others(self):
        for nodes in (5, 6, 100, BIG):
            self.edges_are(True, self.edges, nodes)
        self.edges_are(True, self.edges[::-1])
        self.edges_are(True, self.edges * 3)
        self.ends_are(True, 3, 0, 3, 3)
        # More than is needed.
        self.edges_are(True, self.edges + ((3, 2, 3), (0, 2, 3)))
        self.edges_are(True, self.edges + ((5, 0, 3), (5, 1, 6), (4, 0, 3), (1, 0, 3)), 7)
        self.ends_are(True, 0, 1, 3)
        # Edges that end at a state node: the net need not be plain.
        self.edges_are(True, self.edges + ((4, 0, 0), (1, 0, 0)))
        self.edges_are(False, self.edges + ((4, 0, 0),))

    def test_nodes_with_numbers_of_any_size(self):
        edges = tuple(tuple(BIG if node == 4 else node for node in edge) for edge in self.edges)
        self.check(True, examples.Stays, BIG + 1, edges, self.ends)
        self.check(True, examples.Stays, 2 * BIG, edges, self.ends + (BIG + 1,))
        self.check(False, examples.Stays, BIG, edges, self.ends)

    def test_wrong_numbers_of_nodes(self):
        for nodes in (4, 3, 2, 1, 0, -1, -5, -BIG):
            self.edges_are(False, self.edges, nodes)
        # All that is told is in range, but the net has more nodes.
        net = Net(2, 3, 6, examples.Stays.net.edges, examples.Stays.net.ends)
        for nodes in (5, 6, 7):
            paper = ("stays", nodes) + examples.Stays.paper[2:]
            verdict = self.ask(takes_came, examples.Stays.machine, net, examples.Stays.configuration, False, paper)
            self.assertIs(verdict, nodes >= 6)

    def test_edges_and_ends_that_are_missing(self):
        for index in range(len(self.edges)):
            self.edges_are(False, without(self.edges, index))
        self.edges_are(False, ())
        for ends in ((), (0,), (3,)):
            self.ends_are(False, *ends)

    def test_what_is_out_of_range(self):
        for edge in ((5, 0, 2), (0, 3, 2), (0, 0, 5), (-1, 0, 2), (0, -1, 2), (0, 0, -1), (BIG, 0, 0), (0, BIG, 0), (0, 0, BIG)):
            self.edges_are(False, self.edges + (edge,))
        for end in (5, 6, -1, -2, BIG, -BIG):
            self.ends_are(False, 0, 3, end)

    def test_nets_that_accept_the_configuration(self):
        # Closed, but the configuration is in the set.
        self.ends_are(False, 0, 2, 3)
        everything = whole_net(2, 3)
        paper = ("stays", everything.nodes, everything.edges, everything.ends)
        for configuration in checks.configurations(2, 3, 3):
            verdict = self.ask(takes_came, examples.Stays.machine, none_net(2, 3), configuration, False, paper)
            self.assertIs(verdict, False)
            verdict = self.ask(takes_came, examples.Stays.machine, none_net(2, 3), configuration, False, ("stays", 2, (), ()))
            self.assertIs(verdict, True)

    def test_closed_forwards_by_the_letters_that_steps_lay(self):
        net = Net(2, 2, 4, [(0, 0, 2), (2, 1, 3)], [3])
        for laid, edges, ends, expected in (
            ((), (), (), False),
            ((), ((1, 1, 3),), (), True),
            ((), ((1, 1, 2),), (), False),
            ((), ((1, 0, 3),), (), False),
            ((), ((0, 1, 3),), (), False),
            ((), ((1, 1, 3),), (2,), False),
            ((), ((1, 1, 3),), (2, 1), True),
            ((), ((1, 1, 3), (2, 0, 0)), (), False),
            ((), ((1, 1, 3), (2, 0, 0), (1, 0, 0)), (), True),
            ((1,), (), (), False),
            ((1,), ((1, 1, 2),), (), True),
            ((1,), ((1, 1, 3),), (), False),
            ((1,), ((1, 0, 2),), (), False),
            ((1,), ((0, 1, 2),), (), False),
            ((1,), ((1, 1, 2), (0, 0, 3)), (), False),
            ((1,), ((1, 1, 2), (0, 0, 3), (1, 1, 3)), (), True),
            ((1, 0), (), (), False),
            ((1, 0), ((1, 1, 4), (4, 0, 2)), (), True),
            ((1, 0), ((1, 1, 4), (5, 0, 2)), (), False),
            ((1, 0), ((1, 0, 4), (4, 1, 2)), (), False),
            ((1, 0), ((0, 1, 4), (4, 0, 2)), (), False),
            ((1, 0), ((1, 1, 4), (4, 0, 3)), (), False),
            ((1, 0), ((1, 1, 4), (4, 0, 3), (1, 1, 5), (5, 0, 2)), (), True),
            ((1, 0), ((1, 1, 0),), (), True),
        ):
            machine = Machine(2, 2, [Step(0, 0, 1, laid)])
            paper = ("stays", 6, net.edges + edges, net.ends + ends)
            for configuration in ((1, (1, 1, 1)), (1, (0, 0, 0, 0))):
                verdict = self.ask(takes_came, machine, net, configuration, False, paper)
                self.assertIs(verdict, expected, (laid, edges, ends))

    def test_each_change_of_each_part(self):
        self.check_changes(examples.Stays, 250)


class AnyPaperTest(JudgeCase):
    def test_the_form_must_fit_the_answer(self):
        # The numbers alone would be right for these answers.
        numbers = examples.Least.numbers
        for weight in WEIGHTS:
            self.assertIs(self.takes(examples.Least, weight, ("never", numbers)), False)
            for rows, way in (((), ()), examples.Least.paper[1:3], (((9, ()),), ()), ((), (("row", 0), ("row", 1)))):
                self.assertIs(self.takes(examples.Never, weight, ("least", rows, way, numbers)), False)
        for verdict in VERDICTS:
            paper = ("stays", 2, (), ())
            self.assertIs(self.takes(examples.Came, verdict, paper), False)

    def test_papers_of_another_question(self):
        for example in (examples.Least, examples.Never):
            for other in (examples.Came, examples.Stays, examples.Ever, examples.Not):
                for weight in WEIGHTS:
                    self.assertIs(self.takes(example, weight, other.paper), False)
        for example in (examples.Came, examples.Stays):
            for other in (examples.Least, examples.Never, examples.Ever, examples.Not):
                for verdict in VERDICTS:
                    self.assertIs(self.takes(example, verdict, other.paper), False)

    def test_mismatch_whatever_the_paper_is(self):
        machine = Machine(2, 3, [Step(0, 0, 1)])
        for states, letters in ((1, 3), (3, 3), (2, 2), (2, 4), (3, 2)):
            plain_not = Net(states, letters, 3, [(0, 0, 0)], [0])
            for net in (none_net(states, letters), whole_net(states, letters), plain_not):
                self.check_raises(Mismatch, machine, net)

    def test_not_plain_whatever_the_paper_is(self):
        machine = Machine(2, 3, [Step(0, 0, 1)])
        for goal in (0, 1):
            self.check_raises(NotPlain, machine, Net(2, 3, 2, [(0, 0, goal)], []))
            self.check_raises(NotPlain, machine, Net(2, 3, 4, [(0, 0, 3), (2, 0, 3), (3, 0, goal)], [3]))

    def check_raises(self, error, machine, net):
        for example in examples.ALL:
            for judge, answers in ((takes_least, (None, 0, 9)), (takes_came, VERDICTS)):
                for answer in answers:
                    for configuration in ((0, ()), (0, (0, 0))):
                        with self.assertRaises(error) as caught:
                            judge(machine, net, configuration, answer, example.paper)
                        self.assertIs(type(caught.exception), error)

    def test_papers_that_the_program_gives(self):
        chance = random.Random(61)
        for _ in range(100):
            machine = random_machine(chance, 4, 4, 16)
            net = random_net(chance, machine.states, machine.letters, True)
            for height in (0, 1, 2, 6):
                pile = tuple(chance.randrange(machine.letters) for _ in range(height))
                configuration = (chance.randrange(machine.states), pile)
                self.check_weights(machine, net, configuration)
                verdict, paper = came(machine, net, configuration)
                self.assertIs(self.ask(takes_came, machine, net, configuration, verdict, paper), True)
                self.assertIs(self.ask(takes_came, machine, net, configuration, not verdict, paper), False)

    def check_weights(self, machine, net, configuration):
        weight, paper = least(machine, net, configuration)
        others = [0, 1, BIG, -1] if weight is None else [weight + 1, weight - 1, None, -weight - 1, BIG]
        self.assertIs(self.ask(takes_least, machine, net, configuration, weight, paper), True)
        for other in others:
            self.assertIs(self.ask(takes_least, machine, net, configuration, other, paper), False)

    def test_changed_papers_by_chance(self):
        chance = random.Random(62)
        taken = dict.fromkeys(papers.FORMS, 0)
        refused = dict.fromkeys(papers.FORMS, 0)
        for _ in range(250):
            machine = random_machine(chance, 3, 3, 8)
            net = random_net(chance, machine.states, machine.letters, True)
            pile = tuple(chance.randrange(machine.letters) for _ in range(chance.randint(0, 4)))
            configuration = (chance.randrange(machine.states), pile)
            for judge, slow, (answer, paper) in (
                (takes_least, checks.is_least, least(machine, net, configuration)),
                (takes_came, checks.is_came, came(machine, net, configuration)),
            ):
                for _ in range(25):
                    changed = paper
                    for _ in range(chance.randint(1, 3)):
                        changed = papers.changed_by_chance(chance, changed)
                    right = slow(machine, net, configuration, (answer, changed))
                    self.assertIs(judge(machine, net, configuration, answer, changed), right)
                    (taken if right else refused)[paper[0]] += 1
        for form in ("least", "never", "came", "stays"):
            self.assertGreater(taken[form], 20)
            self.assertGreater(refused[form], 200)


class SizeTest(JudgeCase):
    """Papers of others at the bounds."""

    def test_rows_that_double_their_weights(self):
        machine = Machine(1, 1, [Step(0, 0, 0, (), 1), Step(0, 0, 0, (0, 0), 0)])
        net = Net(1, 1, 1, [], [0])
        rows = ((0, ()),) + tuple((1, (("row", index), ("row", index))) for index in range(2_999))
        numbers = (((0, 0, 0), 1),)
        for index, expected in ((0, True), (1, False), (2_999, False)):
            paper = ("least", rows, (("row", index),), numbers)
            self.assertIs(self.ask(takes_least, machine, net, (0, (0,)), 1, paper), expected)
            self.assertIs(takes_least(machine, net, (0, (0,)), 2 ** index, paper), index == 0)
        goal = ("came", (0, (0,)), rows, (("row", 2_999),))
        self.assertIs(self.ask(takes_came, machine, whole_net(1, 1), (0, ()), True, goal), True)

    def test_large_numbers(self):
        machine = Machine(2, 1, [Step(0, 0, 1, (), 10 ** 9)])
        net = Net(2, 1, 3, [(1, 0, 2)], [2])
        numbers = (((0, 0, 1), 10 ** 9), ((1, 0, 0), BIG), ((1, 0, 2), 0), ((2, 0, 2), BIG))
        rows, way = ((0, ()),), (("row", 0), ("net", (1, 0, 2)))
        for weight in (10 ** 9, BIG, 10 ** 9 + BIG):
            paper = ("least", rows, way, numbers)
            self.assertIs(self.ask(takes_least, machine, net, (0, (0, 0)), weight, paper), weight == 10 ** 9)
        # There is no run, but the numbers give a bound.
        never = ("never", numbers)
        self.assertIs(self.ask(takes_least, machine, net, (0, (0, 0, 0)), None, never), False)
        never = ("never", numbers[:1] + numbers[2:3])
        self.assertIs(self.ask(takes_least, machine, net, (0, (0, 0, 0)), None, never), True)

    def test_tuples_with_3000_items(self):
        states, letters, nodes = 1, 30, 100
        edges = [(node, letter, 1 + (node * 7 + letter) % 99) for node in range(nodes) for letter in range(letters)]
        net = Net(states, letters, nodes, edges, list(range(nodes)))
        numbers = tuple((edge, 0) for edge in net.edges)
        machine = Machine(1, 30, [])
        way = []
        node = 0
        for index in range(300):
            way.append(("net", (node, index % 30, 1 + (node * 7 + index % 30) % 99)))
            node = way[-1][1][2]
        configuration = (0, tuple(index % 30 for index in range(300)))
        paper = ("least", (), tuple(way), numbers)
        self.assertIs(self.ask(takes_least, machine, net, configuration, 0, paper), True)
        self.assertIs(self.ask(takes_least, machine, net, configuration, 0, paper[:2] + (tuple(way[::-1]),) + paper[3:]), False)
        stays = ("stays", nodes, net.edges, ())
        self.assertIs(self.ask(takes_came, machine, none_net(1, 30), configuration, False, stays), True)


if __name__ == "__main__":
    unittest.main()
