"""Runs of papers, counted and spelled out."""

import random
import unittest

from pilereach.ahead import least
from pilereach.behind import came
from pilereach.endless import endless
from pilereach.machine import Machine, Step
from pilereach.net import Net, none_net, whole_net
from pilereach.spelling import length_of, spelled
from tests import checks
from tests.samples import copy_of_machine, doubling_machine, random_machine, random_net


def empty_at_0(letters):
    return Net(1, letters, 1, [], [0])


class SpellingTest(unittest.TestCase):
    def check(self, machine, paper, run):
        copy = copy_of_machine(machine)
        self.assertEqual(length_of(machine, paper), len(run))
        for most in (len(run), len(run) + 1, 10 ** 60):
            answer = spelled(machine, paper, most)
            self.assertEqual(answer, run)
            self.assertIs(type(answer), tuple)
        for most in (len(run) - 1, -1, -10 ** 60):
            self.assertIsNone(spelled(machine, paper, most))
        if run:
            self.assertIsNone(spelled(machine, paper, 0))
        self.assertEqual(machine, copy)

    def test_the_empty_run(self):
        machine = Machine(1, 1, [Step(0, 0, 0)])
        self.check(machine, least(machine, whole_net(1, 1), (0, (0, 0)))[1], ())
        self.check(machine, least(machine, whole_net(1, 1), (0, ()))[1], ())
        self.check(machine, ("least", ((0, ()),), (), ()), ())
        self.check(machine, ("least", ((0, ()),), (("net", (0, 0, 0)),), ()), ())

    def test_items_one_after_another(self):
        machine = Machine(1, 3, [Step(0, 0, 0), Step(0, 1, 0, (0,)), Step(0, 2, 0, (1, 0)), Step(0, 0, 0, (2,))])
        rows = ((0, ()), (1, (("row", 0),)), (2, (("row", 1), ("row", 0))), (3, (("row", 2),)))
        self.check(machine, ("least", rows, (("row", 2),), ()), (2, 1, 0, 0))
        way = (("row", 3), ("row", 0), ("row", 1), ("row", 3))
        self.check(machine, ("least", rows, way, ()), (3, 2, 1, 0, 0, 0, 1, 0, 3, 2, 1, 0, 0))

    def test_edges_of_the_net_have_empty_runs(self):
        machine = Machine(1, 2, [Step(0, 0, 0), Step(0, 1, 0, (0, 1))])
        net = ("net", (0, 1, 1))
        rows = ((0, ()), (1, (("row", 0), net)), (1, (net, net)))
        self.check(machine, ("least", rows, (net, ("row", 1), net, ("row", 2)), ()), (1, 0, 1))

    def test_papers_of_least(self):
        chance = random.Random(31)
        for _ in range(150):
            machine = random_machine(chance)
            net = random_net(chance, machine.states, machine.letters, True)
            pile = tuple(chance.randrange(machine.letters) for _ in range(chance.randint(0, 6)))
            configuration = (chance.randrange(machine.states), pile)
            weight, paper = least(machine, net, configuration)
            if weight is None:
                self.assertIsNone(length_of(machine, paper))
                self.assertIsNone(spelled(machine, paper, 10 ** 9))
            else:
                run = checks.run_of(paper[1], paper[2])
                self.check(machine, paper, run)
                goal = checks.take_all(machine, configuration, run)
                self.assertTrue(checks.accepts(net, goal))
                self.assertEqual(sum(machine.steps[index].weight for index in run), weight)

    def test_numbers_that_double_with_each_row(self):
        machine = doubling_machine(128)
        weight, paper = least(machine, empty_at_0(128), (0, (0, 64)))
        self.assertEqual(length_of(machine, paper), 2 ** 128 - 1 + 2 ** 64 - 1)
        for most in (0, 10_000, 10 ** 9, 2 ** 128 + 2 ** 64 - 3, -1):
            self.assertIsNone(spelled(machine, paper, most))
        run = spelled(machine, least(machine, empty_at_0(128), (0, (115,)))[1], 10_000)
        self.assertEqual(len(run), 2 ** 13 - 1)
        self.assertEqual(checks.take_all(machine, (0, (115,)), run), (0, ()))

    def test_rows_of_others(self):
        machine = Machine(1, 1, [Step(0, 0, 0), Step(0, 0, 0, (0, 0))])
        rows = [(0, ())] + [(1, (("row", index), ("row", index))) for index in range(2_999)]
        self.assertEqual(length_of(machine, ("least", tuple(rows), (("row", 2_999),), ())), 2 ** 3_000 - 1)
        self.assertIsNone(spelled(machine, ("least", tuple(rows), (("row", 2_999),), ()), 10 ** 800))
        self.check(machine, ("least", tuple(rows), (("row", 0),) * 3, ()), (0, 0, 0))
        # A row that leads ever deeper, always on one side.
        for side in (0, 1):
            deep = [(0, ())]
            for index in range(2_999):
                parts = (("row", index), ("row", 0)) if side == 0 else (("row", 0), ("row", index))
                deep.append((1, parts))
            run = spelled(machine, ("least", tuple(deep), (("row", 2_999),), ()), 10_000)
            self.assertEqual(run, (1,) * 2_999 + (0,) * 3_000 if side == 0 else (1, 0) * 2_999 + (0,))

    def test_other_papers(self):
        machine = Machine(1, 1, [Step(0, 0, 0), Step(0, 0, 0, (0, 0))])
        papers = [
            least(machine, none_net(1, 1), (0, (0,)))[1],
            came(machine, whole_net(1, 1), (0, (0,)))[1],
            came(machine, none_net(1, 1), (0, (0,)))[1],
            endless(machine, [1], (0, (0,)))[1],
            endless(machine, [], (0, (0,)))[1],
        ]
        self.assertEqual([paper[0] for paper in papers], ["never", "came", "stays", "ever", "not"])
        for paper in papers:
            self.assertIsNone(length_of(machine, paper))
            for most in (0, -1, 10 ** 9):
                self.assertIsNone(spelled(machine, paper, most))


if __name__ == "__main__":
    unittest.main()
