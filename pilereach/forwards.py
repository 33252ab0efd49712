"""The edges and ends that close a plain net forwards."""

from pilereach.branches import branches
from pilereach.bundles import bundle_of, nodes_of
from pilereach.laying import steps_by_head
from pilereach.net import Net


class Forwards:
    """Adds to a net, while it is made, what the steps of a machine need.

    The net stays plain. goals has for each node and letter the bundle of the
    nodes at which edges end.
    """

    def __init__(self, machine, net):
        self.net = net
        self.steps = machine.steps
        self.indexes = steps_by_head(machine)
        self.nodes = net.nodes
        self.ends = bundle_of(net.ends)
        self.goals = {}
        # The node between two letters that a step lays, for each (goal, first
        # letter): one is enough, since what lies below tells nothing of it.
        self.between = {}
        # States from which a letter was taken off have all edges of the node
        # behind it: for each such node the states, for each state the nodes.
        self.followers = {}
        self.followed = {}
        # Edges from states from which no step was taken yet, by their heads.
        self.fresh = {}
        self.heads = []
        for node, letters in branches(net.edges).items():
            for letter, goals in letters.items():
                self.put(node, letter, bundle_of(goals))
        while self.heads:
            self.go_on(self.heads.pop())

    def closed_net(self):
        """The net with all that was added."""
        net = self.net
        edges = []
        for node, row in self.goals.items():
            for letter, goals in row.items():
                edges.extend([(node, letter, goal) for goal in nodes_of(goals)])
        return Net(net.states, net.letters, self.nodes, edges, nodes_of(self.ends))

    def put(self, node, letter, goals):
        """Add edges from a node with a letter to all nodes of a bundle."""
        row = self.goals.setdefault(node, {})
        fresh = goals & ~row.get(letter, 0)
        if fresh == 0:
            return
        row[letter] = row.get(letter, 0) | fresh
        if node < self.net.states:
            self.put_off((node, letter), fresh)
        for state in self.followers.get(node, ()):
            self.put(state, letter, fresh)

    def put_off(self, head, goals):
        """Keep edges from a head until their steps are taken."""
        if head not in self.fresh:
            self.fresh[head] = 0
            self.heads.append(head)
        self.fresh[head] |= goals

    def go_on(self, head):
        """Take the steps of a head along its fresh edges."""
        goals = self.fresh.pop(head)
        for index in self.indexes.get(head, ()):
            step = self.steps[index]
            if len(step.laid) == 0:
                self.follow_nodes(step.goal, goals)
            elif len(step.laid) == 1:
                self.put(step.goal, step.laid[0], goals)
            else:
                between = self.node_between(step.goal, step.laid[0])
                self.put(step.goal, step.laid[0], 1 << between)
                self.put(between, step.laid[1], goals)

    def node_between(self, goal, letter):
        """The node between this letter, laid at the goal, and a second one."""
        if (goal, letter) not in self.between:
            self.between[(goal, letter)] = self.nodes
            self.nodes += 1
        return self.between[(goal, letter)]

    def follow_nodes(self, state, nodes):
        """Give a state all that the nodes of a bundle have, now and later."""
        fresh = nodes & ~self.followed.get(state, 0)
        self.followed[state] = self.followed.get(state, 0) | fresh
        if fresh & self.ends:
            self.ends |= 1 << state
        for node in nodes_of(fresh):
            self.followers.setdefault(node, []).append(state)
            for letter, goals in list(self.goals.get(node, {}).items()):
                self.put(state, letter, goals)
