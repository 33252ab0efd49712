"""Machines with finitely many states and one pile of letters."""

from pilereach.errors import InvalidMachine
from pilereach.ranges import is_below

MOST_LAID = 2


class Step:
    """One step. Only a Machine can tell whether its numbers are in range."""

    def __init__(self, state, letter, goal, laid=(), weight=1):
        self.state = state
        self.letter = letter
        self.goal = goal
        self.laid = tuple(laid)
        self.weight = weight

    def __eq__(self, other):
        return (
            isinstance(other, Step)
            and self.state == other.state
            and self.letter == other.letter
            and self.goal == other.goal
            and self.laid == other.laid
            and self.weight == other.weight
        )


class Machine:
    """The numbers of states and letters, and the steps in their order."""

    def __init__(self, states, letters, steps):
        if states < 1:
            raise InvalidMachine("a machine has at least one state")
        if letters < 1:
            raise InvalidMachine("a machine has at least one letter")
        self.states = states
        self.letters = letters
        self.steps = tuple(steps)
        for step in self.steps:
            _check_step(step, states, letters)

    def __eq__(self, other):
        return (
            isinstance(other, Machine)
            and self.states == other.states
            and self.letters == other.letters
            and self.steps == other.steps
        )


def _check_step(step, states, letters):
    """Raise InvalidMachine if a machine of this size can't have the step."""
    if not is_below(step.state, states):
        raise InvalidMachine("a step begins at a state that is none")
    if not is_below(step.letter, letters):
        raise InvalidMachine("a step has a letter that is none")
    if not is_below(step.goal, states):
        raise InvalidMachine("a step leads to a state that is none")
    if len(step.laid) > MOST_LAID:
        raise InvalidMachine("a step lays more than two letters")
    for letter in step.laid:
        if not is_below(letter, letters):
            raise InvalidMachine("a step lays a letter that is none")
    if step.weight < 0:
        raise InvalidMachine("a step has a negative weight")
