"""Rows of taking off and moves of papers that others may have made."""

from pilereach.ranges import is_below


class OffRows:
    """The rows of a paper; are_right tells whether all of them are right.

    Each row that was read has a tuple (state, letter, goal, mark): what it
    takes off, where it ends, and whether it is marked.
    """

    def __init__(self, machine, marks, rows):
        self._steps = machine.steps
        self._marks = marks
        self._read = []
        for index, parts in rows:
            row = self._row(index, parts)
            if row is None:
                break
            self._read.append(row)
        self.are_right = len(self._read) == len(rows)

    def take_off(self, state, letters, indexes):
        """Where rows end that take off the letters, and whether one is marked.

        It is None if these rows do not take off these letters from the state.
        """
        if len(indexes) != len(letters):
            return None
        marked = False
        for letter, index in zip(letters, indexes):
            if not is_below(index, len(self._read)) or self._read[index][:2] != (state, letter):
                return None
            state, mark = self._read[index][2:]
            marked = marked or mark
        return state, marked

    def follow_moves(self, head, moves):
        """The head to which moves lead, and whether one is marked.

        It is None if these are no moves, or do not follow one another.
        """
        marked = False
        for move in moves:
            ends = self._move(move)
            if ends is None or ends[0] != head:
                return None
            _, head, mark = ends
            marked = marked or mark
        return head, marked

    def _row(self, index, parts):
        """What a row tells whose parts are among those that were read, or None."""
        if not is_below(index, len(self._steps)):
            return None
        step = self._steps[index]
        found = self.take_off(step.goal, step.laid, parts)
        if found is None:
            return None
        return step.state, step.letter, found[0], index in self._marks or found[1]

    def _move(self, move):
        """The heads at which a move begins and ends and its mark, or None."""
        index, part = move
        if not is_below(index, len(self._steps)):
            return None
        step = self._steps[index]
        mark = index in self._marks
        if part is None:
            if len(step.laid) == 0:
                return None
            return (step.state, step.letter), (step.goal, step.laid[0]), mark
        if len(step.laid) != 2:
            return None
        found = self.take_off(step.goal, step.laid[:1], (part,))
        if found is None:
            return None
        return (step.state, step.letter), (found[0], step.laid[1]), mark or found[1]
