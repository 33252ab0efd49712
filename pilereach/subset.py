"""Deterministic nets, and what a net does not accept."""

from pilereach.bundles import Bundles
from pilereach.fitting import need_alike
from pilereach.net import Net
from pilereach.product import both


def deterministic(net):
    """A plain net with the same set, one edge with each letter at each node."""
    return _decided(net, True)


def other(net):
    """A plain net that accepts exactly what the net does not accept."""
    return _decided(net, False)


def minus(a, b):
    """A plain net that accepts what a accepts and b does not."""
    need_alike(a, b)
    return both(a, other(b))


def _decided(net, verdict):
    """A deterministic net that accepts what the net's verdict is this for.

    Its nodes are bundles of the net's nodes. A state node has a number of its
    own, also where a path leads to the bundle of the state alone.
    """
    bundles = Bundles(net)
    nodes = [1 << state for state in range(net.states)]
    numbers = {}
    edges = []
    node = 0
    while node < len(nodes):
        goals = bundles.after(nodes[node])
        for letter in range(net.letters):
            # With no goal a path goes on with the empty bundle, for ever.
            goal = goals.get(letter, 0)
            if goal not in numbers:
                numbers[goal] = len(nodes)
                nodes.append(goal)
            edges.append((node, letter, numbers[goal]))
        node += 1
    ends = [number for number, bundle in enumerate(nodes) if bundles.has_end(bundle) == verdict]
    return Net(net.states, net.letters, len(nodes), edges, ends)
