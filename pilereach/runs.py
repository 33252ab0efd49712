"""Single steps of a machine, and runs, which take one after another."""

from pilereach.errors import NoStep


def possible(machine, configuration):
    """The numbers of the steps that are possible, ascending."""
    state, pile = configuration
    return [
        index
        for index in range(len(machine.steps))
        if _is_possible(machine, state, pile[:1], index)
    ]


def take(machine, configuration, index):
    """The configuration to which the step with this number leads."""
    state, pile = configuration
    if not _is_possible(machine, state, pile[:1], index):
        raise NoStep(index)
    step = machine.steps[index]
    return step.goal, step.laid + pile[1:]


def follow(machine, configuration, run):
    """The configuration to which the steps lead, one after another."""
    state, pile = configuration
    # Upside down, since a list is cheap to change only at its end: taking
    # step after step would copy the whole pile each time.
    turned = list(pile[::-1])
    for place, index in enumerate(run):
        if not _is_possible(machine, state, turned[-1:], index):
            raise NoStep(place)
        step = machine.steps[index]
        state = step.goal
        turned.pop()
        turned.extend(step.laid[::-1])
    return state, tuple(turned[::-1])


def weight_of(machine, run):
    """The sum of the weights of these steps, possible or not."""
    return sum([machine.steps[index].weight for index in run])


def _is_possible(machine, state, top, index):
    """Tell whether there is this step, and whether it is possible here.

    top holds the letter on top alone; it is empty if the pile is.
    """
    # Python takes an index below 0 from the end, but no step has such a number.
    if index < 0 or index >= len(machine.steps):
        return False
    step = machine.steps[index]
    return len(top) == 1 and step.state == state and step.letter == top[0]
