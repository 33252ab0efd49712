"""What programs mean: the situations of their runs."""

from pilereach.outcomes import outcomes
from pilereach.points import Points


def begin(program):
    """The situation with which the runs of a program begin."""
    return (False,) * program.global_count, (Points(program).first_frames[0],)


def after(program, situation):
    """The situations that follow a situation, in their order."""
    shared, frames = situation
    if len(frames) == 0:
        return []
    found = outcomes(Points(program), shared, frames[0])
    return [(values, laid + frames[1:]) for values, laid in found]
