"""Nets that are closed forwards: no step leads out of their sets."""

from pilereach.bundles import bundle_of, nodes_of


def is_closed_forwards(machine, net):
    """Tell whether the net is closed forwards for the machine."""
    numbers = _small_numbers(net)
    goals = _goals(net, numbers)
    followed = {}
    for step in machine.steps:
        below = goals.get(step.state, {}).get(step.letter, 0)
        if len(step.laid) == 0:
            followed[step.goal] = followed.get(step.goal, 0) | below
        elif below & ~_behind(goals, step.goal, step.laid):
            return False
    ends = bundle_of([numbers[end] for end in net.ends])
    return all([_goes_on_as(goals, ends, state, nodes) for state, nodes in followed.items()])


def _small_numbers(net):
    """A number for each node that the net uses; the states keep theirs.

    Papers may tell nodes with numbers of any size, too large for bundles.
    """
    numbers = {state: state for state in range(net.states)}
    for node, _, goal in net.edges:
        numbers.setdefault(node, len(numbers))
        numbers.setdefault(goal, len(numbers))
    for end in net.ends:
        numbers.setdefault(end, len(numbers))
    return numbers


def _goals(net, numbers):
    """For each node a dict: for each letter the bundle of the nodes behind it."""
    goals = {}
    for node, letter, goal in net.edges:
        row = goals.setdefault(numbers[node], {})
        row[letter] = row.get(letter, 0) | 1 << numbers[goal]
    return goals


def _behind(goals, node, letters):
    """The bundle of the nodes to which paths from a node read the letters."""
    bundle = 1 << node
    for letter in letters:
        behind = 0
        for between in nodes_of(bundle):
            behind |= goals.get(between, {}).get(letter, 0)
        bundle = behind
    return bundle


def _goes_on_as(goals, ends, state, nodes):
    """Tell whether a state has all the edges of the nodes, and is an end if one is."""
    if nodes & ends and not ends >> state & 1:
        return False
    row = goals.get(state, {})
    for node in nodes_of(nodes):
        for letter, behind in goals.get(node, {}).items():
            if behind & ~row.get(letter, 0):
                return False
    return True
