"""What one or the other of two nets accepts, and what both accept."""

from pilereach.branches import branches
from pilereach.fitting import need_alike
from pilereach.net import Net, plain


def union(a, b):
    """A plain net that accepts what a or b accepts."""
    need_alike(a, b)
    left = plain(a)
    right = plain(b)
    # Both may share the state nodes: as no edge ends at one of them, no path
    # can go over from one net into the other.
    shift = left.nodes - left.states
    edges = list(left.edges)
    for node, letter, goal in right.edges:
        edges.append((_shifted(right, node, shift), letter, _shifted(right, goal, shift)))
    ends = list(left.ends) + [_shifted(right, end, shift) for end in right.ends]
    return Net(left.states, left.letters, right.nodes + shift, edges, ends)


def both(a, b):
    """A plain net that accepts what a and b accept."""
    need_alike(a, b)
    left = plain(a)
    right = plain(b)
    # A node is a pair of nodes; only the pairs that are reached become one.
    pairs = [(state, state) for state in range(a.states)]
    numbers = {}
    edges = []
    first_goals = branches(left.edges)
    second_goals = branches(right.edges)
    node = 0
    while node < len(pairs):
        first, second = pairs[node]
        for letter, pair in _pairs_after(first_goals.get(first, {}), second_goals.get(second, {})):
            if pair not in numbers:
                numbers[pair] = len(pairs)
                pairs.append(pair)
            edges.append((node, letter, numbers[pair]))
        node += 1
    return Net(a.states, a.letters, len(pairs), edges, _end_pairs(left, right, pairs))


def _shifted(net, node, shift):
    return node if node < net.states else node + shift


def _pairs_after(firsts, seconds):
    """Pairs of a letter and of the nodes to which both nets go with it."""
    return [
        (letter, (first, second))
        for letter, goals in firsts.items()
        if letter in seconds
        for first in goals
        for second in seconds[letter]
    ]


def _end_pairs(left, right, pairs):
    """The numbers of the pairs of two ends."""
    firsts = {end: True for end in left.ends}
    seconds = {end: True for end in right.ends}
    return [node for node, (first, second) in enumerate(pairs) if first in firsts and second in seconds]
