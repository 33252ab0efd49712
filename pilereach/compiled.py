"""Programs as machines, and their situations as configurations."""

from pilereach.letters import Letters, number_of, values_of
from pilereach.machine import Machine, Step
from pilereach.outcomes import outcomes


def machine_of(program):
    """The machine of a program."""
    letters = Letters(program)
    states = 1 << program.global_count
    steps = []
    for letter, frame in enumerate(letters.frames):
        for state in range(states):
            for values, laid in outcomes(letters.points, values_of(state, program.global_count), frame):
                pile = [letters.letter_of(part) for part in laid]
                steps.append(Step(state, letter, number_of(values), pile, 1))
    return Machine(states, len(letters.frames), steps)


def configuration_of(program, situation):
    """The configuration of a situation."""
    shared, frames = situation
    letters = Letters(program)
    return number_of(shared), tuple([letters.letter_of(frame) for frame in frames])


def situation_of(program, configuration):
    """The situation with this configuration."""
    state, pile = configuration
    return values_of(state, program.global_count), Letters(program).frames_of(pile)
