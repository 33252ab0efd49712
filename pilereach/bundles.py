"""Bundles: sets of nodes of a net, each as one number.

Bit i of the number is set if node i is in the bundle.
"""

from pilereach.branches import branches


def bundle_of(nodes):
    """The bundle of these nodes."""
    bundle = 0
    for node in nodes:
        bundle |= 1 << node
    return bundle


def nodes_of(bundle):
    """The nodes in a bundle, ascending."""
    nodes = []
    while bundle:
        lowest = bundle & -bundle
        nodes.append(lowest.bit_length() - 1)
        bundle ^= lowest
    return nodes


class Bundles:
    """The bundles of a net, and how they go on with each letter."""

    def __init__(self, net):
        self._ends = bundle_of(net.ends)
        self._goals = {}
        for node, goals in branches(net.edges).items():
            self._goals[node] = {letter: bundle_of(goals[letter]) for letter in goals}
        self._known = {}

    def has_end(self, bundle):
        """Tell whether an end is in the bundle."""
        return bundle & self._ends != 0

    def after(self, bundle):
        """For each letter the bundle behind it, with ascending letters.

        Letters behind which no node is reached are left out.
        """
        if bundle not in self._known:
            self._known[bundle] = self._work_out(bundle)
        return self._known[bundle]

    def _work_out(self, bundle):
        found = {}
        for node in nodes_of(bundle):
            for letter, goals in self._goals.get(node, {}).items():
                found[letter] = found.get(letter, 0) | goals
        return {letter: found[letter] for letter in sorted(found)}
