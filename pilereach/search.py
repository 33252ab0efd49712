"""The least weights of the edges that runs add to a plain net.

An edge (state, letter, node) is added if there is a run from the state with
this letter alone on the pile to a state and a pile that lead to the node. Its
weight is the least one of such runs; among these, runs with few steps count
as less, so that no run is longer than its weight needs. Edges are settled in
the order of (weight, number of steps), as in the search for shortest ways, so
the parts that an edge is made of are always settled before the edge itself.
"""

from heapq import heappop, heappush

from pilereach.bundles import nodes_of
from pilereach.laying import Laying


class Search:
    """Finds all edges, those of the net among them, when it is made.

    The row of an edge is a pair (step, parts): the first step of a run, None
    for an edge of the net, and the places of the earlier edges that read what
    the step lays. weights has for each edge the pair (weight, number of steps).
    """

    def __init__(self, machine, net):
        self.entries = []
        self.rows = []
        self.weights = []
        # For each head a dict: for each goal the place of the edge.
        self.places = {}
        self._steps = machine.steps
        self._laying = Laying(machine)
        # A source is a head or a word. For each one a dict: for each node to
        # which it can be read the triple (weight, number of steps, reason).
        # The reason of a head is a step, or None for an edge of the net, that
        # of a word the places of its two edges.
        self._found = {}
        self._queue = []
        # For each source the bundle of nodes for which it is settled; for each
        # head the words whose second letter it is, each with what is found of
        # it, and the weight and place of its first edge.
        self._settled = {}
        self._waiting = {}
        for node, letter, goal in net.edges:
            self._offer((node, letter), goal, (0, 0), None)
        for index in self._laying.emptying:
            self._offer_step(index, self._steps[index].goal, (0, 0))
        while self._queue:
            self._settle_next()

    def _offer(self, source, goal, weight, reason):
        """Keep what is offered if it is less than what is known."""
        found = self._found.setdefault(source, {})
        if goal not in found or weight < found[goal][:2]:
            found[goal] = (weight[0], weight[1], reason)
            heappush(self._queue, (weight[0], weight[1], source, goal))

    def _offer_step(self, index, goal, weight):
        """Offer the edge of a step whose letters are read to the goal."""
        step = self._steps[index]
        self._offer((step.state, step.letter), goal, (weight[0] + step.weight, weight[1] + 1), index)

    def _settle_next(self):
        """Take the least row of the queue and go on from it."""
        first, second, source, goal = heappop(self._queue)
        found = self._found[source][goal]
        if first != found[0] or second != found[1]:
            # Something less was offered later, and it is settled already.
            return
        self._settled[source] = self._settled.get(source, 0) | 1 << goal
        if len(source) == 2:
            self._settle_edge(source, goal, found[2])
            self._go_on(source, goal, (first, second))
        else:
            for index in self._laying.by_word[source]:
                self._offer_step(index, goal, (first, second))

    def _settle_edge(self, head, goal, index):
        """Give an edge its place and its row."""
        self.places.setdefault(head, {})[goal] = len(self.rows)
        self.entries.append((head[0], head[1], goal))
        self.weights.append(self._found[head][goal][:2])
        parts = ()
        if index is not None:
            step = self._steps[index]
            if len(step.laid) == 1:
                parts = (self.places[(step.goal, step.laid[0])][goal],)
            elif len(step.laid) == 2:
                parts = self._found[(step.goal, step.laid[0], step.laid[1])][goal][2]
        self.rows.append((index, parts))

    def _go_on(self, head, goal, weight):
        """Offer all that lays the letter of an edge that was just settled."""
        place = self.places[head][goal]
        for index in self._laying.by_head.get(head, ()):
            self._offer_step(index, goal, weight)
        for word in self._laying.starting.get(head, ()):
            self._begin_word(word, goal, place)
        for word, found, more, first in self._waiting.get(head, ()):
            # Most offers come too late: they are turned down as fast as can be.
            if goal not in found or more + weight[0] <= found[goal][0]:
                self._offer_word(word, goal, first, place)

    def _begin_word(self, word, between, place):
        """Join the word's first letter, read to a node, to its second one."""
        second = (between, word[2])
        found = self._found.setdefault(word, {})
        self._waiting.setdefault(second, []).append((word, found, self.weights[place][0], place))
        # What is settled of the word can't become less.
        for goal in nodes_of(self._settled.get(second, 0) & ~self._settled.get(word, 0)):
            self._offer_word(word, goal, place, self.places[second][goal])

    def _offer_word(self, word, goal, first, second):
        """Offer a word that two edges read, given by their places."""
        one = self.weights[first]
        two = self.weights[second]
        self._offer(word, goal, (one[0] + two[0], one[1] + two[1]), (first, second))
