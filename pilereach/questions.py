"""Questions about programs: whether runs pass a place, once or for ever."""

from pilereach.ahead import least
from pilereach.compiled import configuration_of, machine_of
from pilereach.endless import endless
from pilereach.letters import Letters, values_of
from pilereach.meaning import begin
from pilereach.net import Net
from pilereach.spelling import spelled


def place_net(program, place):
    """A plain net that accepts what is at a statement that passes the place."""
    letters = Letters(program)
    states = 1 << program.global_count
    # The one node that is no state is behind the innermost frame.
    edges = [(state, letter, states) for state in range(states) for letter in letters.passing(place)]
    edges.extend([(states, letter, states) for letter in range(len(letters.frames))])
    return Net(states, len(letters.frames), states + 1, edges, [states])


def place_marks(program, place):
    """The numbers of the steps that begin at a statement that passes the place."""
    passing = {letter: True for letter in Letters(program).passing(place)}
    return tuple([index for index, step in enumerate(machine_of(program).steps) if step.letter in passing])


def can_pass(program, place):
    """The least number of steps to the place, or None, and a paper of it."""
    return least(machine_of(program), place_net(program, place), configuration_of(program, begin(program)))


def passes_ever(program, place):
    """Tell whether an endless run passes the place for ever, with a paper of it."""
    return endless(machine_of(program), place_marks(program, place), configuration_of(program, begin(program)))


def story(program, paper, most):
    """The situations of the run of a paper; None if there is none or it has more steps."""
    machine = machine_of(program)
    run = spelled(machine, paper, most)
    if run is None:
        return None
    letters = Letters(program)
    shared, frames = begin(program)
    told = [(shared, frames)]
    for index in run:
        step = machine.steps[index]
        frames = letters.frames_of(step.laid) + frames[1:]
        told.append((values_of(step.goal, program.global_count), frames))
    return told
