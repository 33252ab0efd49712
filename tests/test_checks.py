"""The checks of papers reject what is not right."""

import unittest

from pilereach.ahead import least
from pilereach.behind import came
from pilereach.endless import endless
from pilereach.machine import Machine, Step
from pilereach.net import Net, single
from tests import checks


class LeastCheckTest(unittest.TestCase):
    def setUp(self):
        self.machine = Machine(
            2, 2, [Step(0, 0, 0, (1, 1), 2), Step(0, 1, 1, (), 3), Step(1, 1, 0, (0,), 4), Step(0, 0, 1, (), 90)]
        )
        self.net = Net(2, 2, 3, [(1, 1, 2), (2, 0, 2)], [2])
        self.configuration = (0, (0, 0))
        self.weight, (_, self.rows, self.way, self.numbers) = least(self.machine, self.net, self.configuration)

    def check(self, verdict, weight=None, rows=None, way=None, numbers=None):
        paper = (
            "least",
            self.rows if rows is None else rows,
            self.way if way is None else way,
            self.numbers if numbers is None else numbers,
        )
        answer = (self.weight if weight is None else weight, paper)
        self.assertIs(checks.is_least(self.machine, self.net, self.configuration, answer), verdict)

    def test_the_right_paper(self):
        self.assertEqual(self.weight, 5)
        self.assertEqual(self.rows, ((1, ()), (0, (("row", 0), ("net", (1, 1, 2))))))
        self.assertEqual(self.way, (("row", 1), ("net", (2, 0, 2))))
        self.check(True)
        self.check(True, rows=self.rows + ((3, ()),))

    def test_wrong_weights(self):
        for weight in (4, 6, 0, -1):
            self.check(False, weight=weight)

    def test_wrong_rows(self):
        first, second = self.rows
        net = ("net", (1, 1, 2))
        wrong = [
            (),
            (first,),
            (second, first),
            (first, (0, ())),
            (first, (0, (("row", 0),))),
            (first, (0, (("row", 1), net))),
            (first, (0, (("row", -1), net))),
            (first, (0, (net, ("row", 0)))),
            (first, (0, (("row", 0), ("net", (1, 1, 1))))),
            (first, (1, (("row", 0), net))),
            (first, (4, (("row", 0), net))),
            (first, (-4, (("row", 0), net))),
            ((3, ()), second),
            [first, second],
        ]
        for rows in wrong:
            with self.subTest(rows=rows):
                self.check(False, rows=rows)

    def test_wrong_ways(self):
        first, second = self.way
        wrong = [
            (),
            (first,),
            (second, first),
            (first, second, second),
            (first, ("net", (2, 1, 2))),
            (first, ("net", (1, 1, 2))),
            (("row", 0), second),
            (("row", 2), second),
            (("row", -1), second),
        ]
        for way in wrong:
            with self.subTest(way=way):
                self.check(False, way=way)

    def test_wrong_numbers(self):
        self.check(False, numbers=())
        self.check(False, numbers=self.numbers[::-1])
        self.check(False, numbers=self.numbers + self.numbers[-1:])
        self.check(False, numbers=self.numbers[:-1] + (((2, 0, 3), 0),))
        for index, (edge, number) in enumerate(self.numbers):
            rest = (self.numbers[:index], self.numbers[index + 1:])
            self.check(False, numbers=rest[0] + ((edge, number + 1),) + rest[1])
            self.check(False, numbers=rest[0] + ((edge, -1),) + rest[1])
            self.check(False, numbers=rest[0] + rest[1])

    def test_numbers_that_are_closed_but_too_low(self):
        low = tuple((edge, 0) for edge, _ in self.numbers)
        self.assertTrue(checks.are_closed(self.machine, self.net, low))
        self.check(False, numbers=low)

    def test_never(self):
        never = (None, ("never", self.numbers))
        self.assertFalse(checks.is_least(self.machine, self.net, self.configuration, never))
        self.assertTrue(checks.is_least(self.machine, self.net, (1, (0, 0)), never))
        self.assertFalse(checks.is_least(self.machine, self.net, (1, (0, 0)), (None, ("never", self.numbers[1:]))))
        self.assertFalse(checks.is_least(self.machine, self.net, (1, (0, 0)), (None, ("least", self.numbers))))


class CameCheckTest(unittest.TestCase):
    def setUp(self):
        self.machine = Machine(2, 2, [Step(0, 0, 0, (1, 1)), Step(0, 1, 1), Step(1, 1, 0, (0,))])
        self.net = single(2, 2, (0, (0, 0)))

    def check(self, verdict, configuration, answer):
        self.assertIs(checks.is_came(self.machine, self.net, configuration, answer), verdict)

    def test_came(self):
        configuration = (1, (1, 0))
        answer = came(self.machine, self.net, configuration)
        self.check(True, configuration, answer)
        kind, begin, rows, way = answer[1]
        self.check(False, (0, (1, 0)), answer)
        self.check(False, configuration, (False, answer[1]))
        self.check(False, configuration, (True, (kind, (1, (1, 0)), rows, way)))
        self.check(False, configuration, (True, (kind, begin, rows[1:], way)))
        self.check(False, configuration, (True, (kind, begin, rows, way[1:])))

    def test_stays(self):
        configuration = (1, (0, 0))
        answer = came(self.machine, self.net, configuration)
        self.check(True, configuration, answer)
        kind, nodes, edges, ends = answer[1]
        self.check(False, (0, (0, 0)), answer)
        self.check(False, (1, (1, 0)), answer)
        self.check(False, configuration, (True, answer[1]))
        self.check(False, configuration, (False, (kind, nodes - 1, edges, ends)))
        self.check(False, configuration, (False, (kind, nodes, edges, ())))
        self.check(False, configuration, (False, (kind, nodes, edges, ends + (nodes,))))
        for index in range(len(edges)):
            self.check(False, configuration, (False, (kind, nodes, edges[:index] + edges[index + 1:], ends)))

    def test_ends_of_what_is_taken_off(self):
        self.net = single(2, 2, (0, (1,)))
        kind, nodes, edges, ends = came(self.machine, self.net, (0, ()))[1]
        self.assertEqual(ends, (1, 2))
        self.check(True, (0, ()), (False, (kind, nodes, edges, (1, 2))))
        self.check(False, (0, ()), (False, (kind, nodes, edges, (2,))))


class EndlessCheckTest(unittest.TestCase):
    def setUp(self):
        self.machine = Machine(2, 3, [Step(0, 0, 0, (1, 2)), Step(0, 1, 1), Step(1, 2, 0, (0,)), Step(1, 0, 0, (0,))])

    def check(self, verdict, marked, configuration, answer):
        self.assertIs(checks.is_endless(self.machine, marked, configuration, answer), verdict)

    def test_ever(self):
        configuration = (0, (1, 0))
        answer = endless(self.machine, [1], configuration)
        kind, rows, descent, way, ring = answer[1]
        self.check(True, [1], configuration, answer)
        self.check(False, [], configuration, answer)
        self.check(False, [3], configuration, answer)
        self.check(False, [1], (1, (1, 0)), answer)
        self.check(False, [1], (0, (1,)), answer)
        self.check(False, [1], (0, (1, 1)), answer)
        wrong = [
            ((), descent, way, ring),
            (rows, (), way, ring),
            (rows, (1,), way, ring),
            (rows, descent, way, ()),
            (rows, descent, way, ring[:-1]),
            (rows, descent, way, ring + ring[:1]),
            (rows, descent, way, ((0, None),) + ring[1:]),
            (rows, descent, way + ring[:1], ring),
            (((2, ()),) + rows[1:], descent, way, ring),
            (((1, (0,)),) + rows[1:], descent, way, ring),
        ]
        for parts in wrong:
            with self.subTest(parts=parts):
                self.check(False, [1], configuration, (True, (kind, *parts)))

    def test_not(self):
        machine = Machine(2, 2, [Step(0, 0, 1, (0,)), Step(1, 0, 1, (0,)), Step(0, 1, 0)])
        self.machine = machine
        configuration = (0, (1, 0))
        answer = endless(machine, [0], configuration)
        kind, table, ranks = answer[1]
        self.check(True, [0], configuration, answer)
        self.check(False, [1], configuration, answer)
        self.check(False, [0, 1], configuration, answer)
        self.check(False, [0], configuration, (False, (kind, (), ranks)))
        self.check(False, [0], configuration, (False, (kind, ((0, 1, 0, True),), ranks)))
        self.check(False, [0], configuration, (False, (kind, table, ranks[::-1])))
        for index, (head, _) in enumerate(ranks):
            rest = (ranks[:index], ranks[index + 1:])
            self.check(False, [0], configuration, (False, (kind, table, rest[0] + rest[1])))
            self.check(False, [0], configuration, (False, (kind, table, rest[0] + ((head, -1),) + rest[1])))
        level = tuple((head, 5) for head, _ in ranks)
        self.check(False, [0], configuration, (False, (kind, table, level)))
        self.check(True, [], configuration, (False, (kind, table, level)))


if __name__ == "__main__":
    unittest.main()
