"""The steps of a machine, found by what they read and by what they lay.

A head is a pair (state, letter), a word a triple (goal, first letter, second
letter): what a step reads, and what one that lays two letters leads to.
"""


class Laying:
    """Numbers of steps, by the letters that they lay: none, one or two."""

    def __init__(self, machine):
        self.emptying = []
        self.by_head = {}
        self.by_word = {}
        # The words that begin with a head, each of them once.
        self.starting = {}
        for index, step in enumerate(machine.steps):
            self._sort_in(index, step)

    def _sort_in(self, index, step):
        if len(step.laid) == 0:
            self.emptying.append(index)
        elif len(step.laid) == 1:
            self.by_head.setdefault((step.goal, step.laid[0]), []).append(index)
        else:
            word = (step.goal, step.laid[0], step.laid[1])
            if word not in self.by_word:
                self.by_word[word] = []
                self.starting.setdefault(word[:2], []).append(word)
            self.by_word[word].append(index)


def steps_by_head(machine):
    """For each head the numbers of the steps that read it."""
    found = {}
    for index, step in enumerate(machine.steps):
        found.setdefault((step.state, step.letter), []).append(index)
    return found
