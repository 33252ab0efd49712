"""Numbers on edges, and the bounds that they give for weights."""

from pilereach.ranges import is_below


class Bounds:
    """The edges and numbers of a paper that others may have made.

    The first node and the letter of an edge are its head: for each head there
    is a dict that has for each node behind it the number.
    """

    def __init__(self, numbers):
        self.numbers = numbers
        self._heads = {}
        for (node, letter, goal), number in numbers:
            self._heads.setdefault((node, letter), {})[goal] = number

    def are_closed(self, machine, net):
        """Tell whether the numbers may stand so, and are closed."""
        return self._are_in_order() and self._fit(net) and self._have_edges(net) and self._have_steps(machine)

    def bound(self, net, configuration):
        """The bound for a configuration, or None if there is none."""
        state, pile = configuration
        sums = self._sums_behind({state: 0}, pile)
        return min([sums[end] for end in net.ends if end in sums], default=None)

    def _are_in_order(self):
        """Tell whether the edges strictly ascend."""
        for index in range(1, len(self.numbers)):
            if self.numbers[index - 1][0] >= self.numbers[index][0]:
                return False
        return True

    def _fit(self, net):
        """Tell whether nodes and letters are the net's, and no number is negative."""
        for (node, letter, goal), number in self.numbers:
            if not is_below(node, net.nodes) or not is_below(goal, net.nodes):
                return False
            if not is_below(letter, net.letters) or number < 0:
                return False
        return True

    def _have_edges(self, net):
        """Tell whether each edge of the net has the number 0."""
        return all([self._numbers_at(node, letter).get(goal) == 0 for node, letter, goal in net.edges])

    def _have_steps(self, machine):
        """Tell whether no number is more than a step and what it lays allow."""
        for step in machine.steps:
            goals = self._numbers_at(step.state, step.letter)
            for goal, most in self._sums_behind({step.goal: step.weight}, step.laid).items():
                if goal not in goals or goals[goal] > most:
                    return False
        return True

    def _sums_behind(self, sums, letters):
        """The least sums behind letters: sums has a number for each node ahead of them."""
        for letter in letters:
            behind = {}
            for node, number in sums.items():
                for goal, more in self._numbers_at(node, letter).items():
                    if goal not in behind or number + more < behind[goal]:
                        behind[goal] = number + more
            sums = behind
        return sums

    def _numbers_at(self, node, letter):
        return self._heads.get((node, letter), {})
