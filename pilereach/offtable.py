"""Tables of taking off of papers that others may have made."""

from pilereach.bundles import nodes_of
from pilereach.ranges import is_below


class OffTable:
    """The entries of a table, found by what they take off.

    Each (state, letter) has a pair of bundles: the goals without a mark, and
    those with one.
    """

    def __init__(self, machine, marks, table):
        self._machine = machine
        self._marks = marks
        self._fits = all([_is_entry(machine, entry) for entry in table])
        self._goals = {}
        # Only numbers that are in range can be bits of a bundle.
        if self._fits:
            for state, letter, goal, flag in table:
                self._put((state, letter), _first_goals(goal, flag))

    def is_closed(self):
        """Tell whether the entries may stand in a table, and it is closed."""
        return self._fits and all([self._has_step(index) for index in range(len(self._machine.steps))])

    def states_behind(self, states, letter):
        """The bundle of the goals of all entries that take off the letter from the states."""
        unmarked, marked = self._after((states, 0), letter)
        return unmarked | marked

    def head_edges(self, index):
        """The heads to which head edges of a step lead, each with its mark."""
        step = self._machine.steps[index]
        mark = index in self._marks
        if len(step.laid) == 0:
            return []
        edges = [((step.goal, step.laid[0]), mark)]
        if len(step.laid) == 2:
            unmarked, marked = self._after(_first_goals(step.goal, mark), step.laid[0])
            edges.extend([((state, step.laid[1]), False) for state in nodes_of(unmarked)])
            edges.extend([((state, step.laid[1]), True) for state in nodes_of(marked)])
        return edges

    def _put(self, head, goals):
        """Add goals to those of a head."""
        unmarked, marked = self._goals.get(head, (0, 0))
        self._goals[head] = (unmarked | goals[0], marked | goals[1])

    def _has_step(self, index):
        """Tell whether all that a step takes off is in the table."""
        step = self._machine.steps[index]
        goals = _first_goals(step.goal, index in self._marks)
        for letter in step.laid:
            goals = self._after(goals, letter)
        known = self._goals.get((step.state, step.letter), (0, 0))
        return goals[0] & ~known[0] == 0 and goals[1] & ~known[1] == 0

    def _after(self, goals, letter):
        """The goals behind one more letter; a mark stays where there is one."""
        unmarked = 0
        marked = 0
        for state in nodes_of(goals[0]):
            found = self._goals.get((state, letter), (0, 0))
            unmarked |= found[0]
            marked |= found[1]
        for state in nodes_of(goals[1]):
            found = self._goals.get((state, letter), (0, 0))
            marked |= found[0] | found[1]
        return unmarked, marked


def _is_entry(machine, entry):
    """Tell whether the states and the letter are the machine's."""
    state, letter, goal, _ = entry
    return is_below(state, machine.states) and is_below(letter, machine.letters) and is_below(goal, machine.states)


def _first_goals(state, mark):
    """The pair of bundles with this state alone."""
    return (0, 1 << state) if mark else (1 << state, 0)
