"""An example of each of the six forms of papers, written by hand."""

from pilereach.machine import Machine, Step
from pilereach.net import Net


class Least:
    """A run of weight 9 into the set."""

    machine = Machine(
        2,
        3,
        [Step(0, 0, 0, (1, 1), 2), Step(0, 1, 1, (), 3), Step(1, 1, 1, (2,), 4), Step(0, 0, 1, (), 90)],
    )
    net = Net(2, 3, 3, [(1, 2, 2), (2, 0, 2)], [2])
    configuration = (0, (0, 0))
    answer = 9
    rows = ((1, ()), (2, (("net", (1, 2, 2)),)), (0, (("row", 0), ("row", 1))))
    way = (("row", 2), ("net", (2, 0, 2)))
    numbers = (
        ((0, 0, 1), 90),
        ((0, 0, 2), 9),
        ((0, 1, 1), 3),
        ((1, 1, 2), 4),
        ((1, 2, 2), 0),
        ((2, 0, 2), 0),
    )
    paper = ("least", rows, way, numbers)


class Never:
    """There is no run into the set."""

    machine = Least.machine
    net = Least.net
    configuration = (1, (0, 0))
    answer = None
    numbers = Least.numbers
    paper = ("never", numbers)


class Came:
    """A run from a configuration that the net accepts."""

    machine = Machine(
        2,
        3,
        [Step(0, 0, 0, (1, 2)), Step(0, 1, 1), Step(1, 2, 0, (0,)), Step(1, 2, 1), Step(1, 1, 0)],
    )
    net = Net(2, 3, 4, [(0, 0, 2), (2, 0, 3), (2, 1, 3)], [3])
    configuration = (1, (2, 1))
    answer = True
    begin = (0, (0, 1))
    # The edges are those of single(2, 3, configuration).
    rows = (
        (1, ()),
        (0, (("row", 0), ("net", (1, 2, 2)))),
        (2, (("row", 1),)),
        (0, (("row", 0), ("row", 2))),
    )
    way = (("row", 3), ("net", (2, 1, 3)))
    paper = ("came", begin, rows, way)


class Stays:
    """A net that is closed forwards."""

    machine = Came.machine
    net = Came.net
    configuration = (1, (2,))
    answer = False
    nodes = 5
    edges = ((0, 0, 2), (0, 1, 4), (1, 0, 3), (1, 1, 3), (1, 2, 2), (2, 0, 3), (2, 1, 3), (4, 2, 2))
    ends = (0, 3)
    paper = ("stays", nodes, edges, ends)


class Ever:
    """An endless run that takes step 1 again and again, and only as part of a row."""

    machine = Machine(
        2,
        4,
        [
            Step(0, 0, 0, (1, 2)),
            Step(0, 1, 1),
            Step(1, 2, 0, (0,)),
            Step(1, 0, 0, (0,)),
            Step(1, 1, 0, (1,)),
            Step(0, 3, 0, (1, 1)),
            Step(1, 3, 0, (3, 1)),
        ],
    )
    marked = (1,)
    configuration = (0, (3, 0))
    answer = True
    rows = ((1, ()), (4, (0,)), (5, (0, 1)))
    descent = (2,)
    way = ((3, None),)
    ring = ((0, 0), (2, None))
    paper = ("ever", rows, descent, way, ring)


class Not:
    """Marked steps that are taken only before an endless run goes round."""

    machine = Ever.machine
    marked = (3, 5)
    configuration = (1, (3, 0))
    answer = False
    table = ((0, 1, 1, False), (0, 3, 1, True), (1, 1, 1, False), (1, 3, 1, True))
    ranks = (
        ((0, 0), 0),
        ((0, 1), 0),
        ((0, 3), 1),
        ((1, 0), 1),
        ((1, 1), 0),
        ((1, 2), 0),
        ((1, 3), 1),
    )
    paper = ("not", table, ranks)


ALL = (Least, Never, Came, Stays, Ever, Not)
