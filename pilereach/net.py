"""Nets, which accept configurations, and the simplest ones of them."""

from pilereach.branches import branches
from pilereach.errors import InvalidNet
from pilereach.ranges import is_below


class Net:
    """The states come first among the nodes; edges and ends ascend."""

    def __init__(self, states, letters, nodes, edges, ends):
        if states < 1:
            raise InvalidNet("a net has at least one state")
        if letters < 1:
            raise InvalidNet("a net has at least one letter")
        if nodes < states:
            raise InvalidNet("a net has a node for each state")
        for edge in edges:
            _check_edge(edge, letters, nodes)
        for end in ends:
            if not is_below(end, nodes):
                raise InvalidNet("an end is no node")
        self.states = states
        self.letters = letters
        self.nodes = nodes
        self.edges = _ascending(edges)
        self.ends = _ascending(ends)
        self._branches = branches(self.edges)

    def __eq__(self, other):
        return (
            isinstance(other, Net)
            and self.states == other.states
            and self.letters == other.letters
            and self.nodes == other.nodes
            and self.edges == other.edges
            and self.ends == other.ends
        )

    def accepts(self, configuration):
        """Tell whether a path from the state to an end reads the pile."""
        state, pile = configuration
        reached = {state: True}
        for letter in pile:
            reached = self._after(reached, letter)
        return any([end in reached for end in self.ends])

    @property
    def is_plain(self):
        """Tell whether no edge ends at a state node."""
        for edge in self.edges:
            if edge[2] < self.states:
                return False
        return True

    def _after(self, nodes, letter):
        """The nodes at which the edges with the letter from these ones end."""
        reached = {}
        for node in nodes:
            if node in self._branches:
                for goal in self._branches[node].get(letter, ()):
                    reached[goal] = True
        return reached


def plain(net):
    """A plain net with the same set."""
    # A state node at which an edge ends gets a twin, which takes these edges
    # and goes on as the state does: only the runs of the net begin at a state.
    twins = {}
    for edge in net.edges:
        goal = edge[2]
        if goal < net.states and goal not in twins:
            twins[goal] = net.nodes + len(twins)
    edges = []
    for node, letter, goal in net.edges:
        end = twins.get(goal, goal)
        edges.append((node, letter, end))
        if node in twins:
            edges.append((twins[node], letter, end))
    ends = list(net.ends) + [twins[end] for end in net.ends if end in twins]
    return Net(net.states, net.letters, net.nodes + len(twins), edges, ends)


def whole_net(states, letters):
    """A plain net that accepts every configuration."""
    nodes = states + 1
    edges = [(node, letter, states) for node in range(nodes) for letter in range(letters)]
    return Net(states, letters, nodes, edges, list(range(nodes)))


def none_net(states, letters):
    """A plain net that accepts no configuration."""
    return Net(states, letters, states, [], [])


def single(states, letters, configuration):
    """The net that accepts this configuration alone: one path, letter by letter."""
    state, pile = configuration
    path = [state] + list(range(states, states + len(pile)))
    edges = [(path[index], letter, path[index + 1]) for index, letter in enumerate(pile)]
    return Net(states, letters, states + len(pile), edges, [path[-1]])


def _ascending(parts):
    """The parts in ascending order, each one once."""
    rows = sorted(parts)
    return tuple([part for index, part in enumerate(rows) if index == 0 or part != rows[index - 1]])


def _check_edge(edge, letters, nodes):
    """Raise InvalidNet if a net of this size can't have the edge."""
    node, letter, goal = edge
    if not is_below(node, nodes) or not is_below(goal, nodes):
        raise InvalidNet("an edge has a node that does not exist")
    if not is_below(letter, letters):
        raise InvalidNet("an edge has a letter that does not exist")
