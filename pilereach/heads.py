"""The graph of heads, and where it goes round and round."""

from pilereach.laying import steps_by_head


class Heads:
    """The heads that moves lead to from some heads.

    moves has for each of them its moves, as triples (head behind the move,
    whether the move is marked, the move).
    """

    def __init__(self, machine, marks, taking, begins):
        self.begins = begins
        self.moves = {}
        indexes = steps_by_head(machine)
        stack = begins[::-1]
        while stack:
            head = stack.pop()
            if head not in self.moves:
                moves = []
                for index in indexes.get(head, ()):
                    moves.extend(_moves_of(machine.steps[index], index, index in marks, taking))
                self.moves[head] = moves
                stack.extend([move[0] for move in moves])

    def groups(self):
        """A number for each head: equal ones if each leads to the other one.

        Where a move leads to another group, the number there is less.
        """
        before = {head: [] for head in self.moves}
        for head, moves in self.moves.items():
            for move in moves:
                before[move[0]].append(head)
        numbers = {}
        number = len(self.moves)
        # Taken from the last to the first, a head that has no number yet is
        # led to by no other group than those that have their numbers.
        for first in self._ended()[::-1]:
            if first not in numbers:
                number -= 1
                _number_group(before, first, number, numbers)
        return numbers

    def _ended(self):
        """All heads, each one behind those that it leads to and that do not lead back."""
        ended = []
        seen = {}
        for begin in self.begins:
            stack = [(begin, 0)]
            while stack:
                head, at = stack.pop()
                if at == 0:
                    if head in seen:
                        continue
                    seen[head] = True
                if at < len(self.moves[head]):
                    stack.append((head, at + 1))
                    stack.append((self.moves[head][at][0], 0))
                else:
                    ended.append(head)
        return ended

    def path(self, begins, goal):
        """The beginning and the moves of a shortest path from one of the heads."""
        origins = {begin: None for begin in begins}
        queue = list(begins)
        at = 0
        while goal not in origins:
            head = queue[at]
            for after, _, move in self.moves[head]:
                if after not in origins:
                    origins[after] = (head, move)
                    queue.append(after)
            at += 1
        moves = []
        while origins[goal] is not None:
            goal, move = origins[goal]
            moves.append(move)
        return goal, moves[::-1]


def _moves_of(step, index, mark, taking):
    """The moves that begin with a step."""
    moves = []
    if len(step.laid) > 0:
        moves.append(((step.goal, step.laid[0]), mark, (index, None)))
    if len(step.laid) == 2:
        for goal, flag, place in taking.at_head((step.goal, step.laid[0])):
            moves.append(((goal, step.laid[1]), mark or flag, (index, place)))
    return moves


def _number_group(before, first, number, numbers):
    """Give the number to a head and to all that lead to it and have none."""
    stack = [first]
    while stack:
        head = stack.pop()
        if head not in numbers:
            numbers[head] = number
            stack.extend(before[head])
