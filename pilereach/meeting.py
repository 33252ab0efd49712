"""A configuration that a net accepts and from which a run leads on."""

from pilereach.branches import branches
from pilereach.bundles import bundle_of, nodes_of


def meeting(net, goal, entries):
    """The state of such a configuration, and the path that reads its pile.

    The path is a list of places of entries, and leads from the state to an end
    of the goal's net. Without any such configuration it is None.
    """
    ends = bundle_of(net.ends)
    letters = branches(net.edges)
    places = _places(entries)
    goals = _goals(entries)
    # Pairs of a node of the net and one that entries lead to, which one pile
    # leads to, each with the index of the pair before it and the last entry.
    rows = [(state, state, None, None) for state in range(net.states)]
    seen = {state: 1 << state for state in range(net.states)}
    at = 0
    while at < len(rows):
        node, point = rows[at][:2]
        if ends >> node & 1 and point in goal.ends:
            return _path_back(rows, at)
        for letter, nodes in letters.get(node, {}).items():
            for after in nodes:
                known = seen.get(after, 0)
                fresh = goals.get((point, letter), 0) & ~known
                seen[after] = known | fresh
                rows.extend([(after, end, at, places[(point, letter, end)]) for end in nodes_of(fresh)])
        at += 1
    return None


def _places(entries):
    return {entry[:3]: place for place, entry in enumerate(entries)}


def _goals(entries):
    """For each head the bundle of the nodes to which entries lead."""
    goals = {}
    for node, letter, goal, _ in entries:
        goals[(node, letter)] = goals.get((node, letter), 0) | 1 << goal
    return goals


def _path_back(rows, at):
    """The state at which the pairs begin, and the entries between them."""
    path = []
    while rows[at][2] is not None:
        path.append(rows[at][3])
        at = rows[at][2]
    return rows[at][0], path[::-1]
