"""The configurations of a net's set in their order.

They stand in order by height, then by pile, then by state.
"""

from pilereach.bundles import Bundles, bundle_of
from pilereach.contrast import Contrast
from pilereach.fitting import need_alike


def first(net):
    """The first configuration of the set, or None if there is none."""
    far = _distances(net)
    heights = [far[state] for state in range(net.states) if state in far]
    if not heights:
        return None
    height = min(heights)
    ways = {}
    for node, letter, goal in net.edges:
        # Only an edge that goes one letter nearer is on a shortest path.
        if far.get(node) is not None and far.get(goal) == far[node] - 1:
            ways.setdefault(node, []).append((letter, goal))
    # For each node that the pile so far leads to, the least state it comes from.
    begins = {state: state for state in range(net.states) if far.get(state) == height}
    pile = []
    for _ in range(height):
        letter = min([way[0] for node in begins for way in ways[node]])
        pile.append(letter)
        begins = _begins_after(begins, ways, letter)
    return min(list(begins.values())), tuple(pile)


def members(net, height):
    """The configurations of the set with this height, in order."""
    bundles = Bundles(net)
    near = _near(net, height)
    rows = [((), state, 1 << state) for state in range(net.states) if near[height] & (1 << state)]
    for left in reversed(range(height)):
        # A pile goes on only where it can still become a member's.
        rows = [
            (pile + (letter,), state, goal)
            for pile, state, bundle in rows
            for letter, goal in bundles.after(bundle).items()
            if goal & near[left]
        ]
    return [(state, pile) for pile, state, _ in sorted(rows)]


def count(net, height):
    """How many configurations of the set have this height."""
    bundles = Bundles(net)
    found, rows = _all_bundles(net, bundles)
    # The piles of height 0, then 1, .., that are accepted from each bundle.
    many = [1 if bundles.has_end(bundle) else 0 for bundle in found]
    for _ in range(height):
        many = [sum([many[goal] for goal in row]) for row in rows]
    return sum(many[:net.states])


def apart(a, b):
    """The first configuration that only one of both nets accepts, or None."""
    need_alike(a, b)
    return Contrast(a, b).first_difference()


def _distances(net):
    """For each node that leads to an end, with how few letters it does."""
    before = {}
    for node, _, goal in net.edges:
        before.setdefault(goal, []).append(node)
    far = {end: 0 for end in net.ends}
    queue = list(net.ends)
    at = 0
    while at < len(queue):
        goal = queue[at]
        for node in before.get(goal, ()):
            if node not in far:
                far[node] = far[goal] + 1
                queue.append(node)
        at += 1
    return far


def _begins_after(begins, ways, letter):
    """The nodes behind the letter, each with the least state it comes from."""
    after = {}
    for node, state in begins.items():
        for way, goal in ways[node]:
            if way == letter:
                after[goal] = min(state, after.get(goal, state))
    return after


def _near(net, height):
    """For each number up to height: the nodes that so many letters lead to an end."""
    goals = {}
    for node, _, goal in net.edges:
        goals[node] = goals.get(node, 0) | 1 << goal
    near = [bundle_of(net.ends)]
    for _ in range(height):
        near.append(bundle_of([node for node in goals if goals[node] & near[-1]]))
    return near


def _all_bundles(net, bundles):
    """All bundles that paths lead to, those of the single states first.

    The row of a bundle has for each letter the place of the bundle behind it;
    a letter behind which there is none is left out.
    """
    found = [1 << state for state in range(net.states)]
    places = {bundle: place for place, bundle in enumerate(found)}
    rows = []
    while len(rows) < len(found):
        row = []
        for goal in bundles.after(found[len(rows)]).values():
            if goal not in places:
                places[goal] = len(found)
                found.append(goal)
            row.append(places[goal])
        rows.append(row)
    return found, rows
