"""The states and letters of the machine of a program.

A state stands for values of the globals, a letter for a frame.
"""

from pilereach.points import Points


class Letters:
    """The frames of a program, numbered as letters."""

    def __init__(self, program):
        self.points = Points(program)
        # For each letter its frame, and for each point its first letter.
        self.frames = []
        self._firsts = []
        for point, count in enumerate(self.points.local_counts):
            self._firsts.append(len(self.frames))
            self.frames.extend([(point, values_of(number, count)) for number in range(1 << count)])

    def letter_of(self, frame):
        """The letter that stands for a frame."""
        point, own = frame
        return self._firsts[point] + number_of(own)

    def frames_of(self, pile):
        """The frames for which the letters of a pile stand."""
        return tuple([self.frames[letter] for letter in pile])

    def passing(self, place):
        """The letters whose frames are at a statement that passes this place, ascending."""
        statements = self.points.statements
        return [letter for letter, frame in enumerate(self.frames) if _passes(statements[frame[0]], place)]


def number_of(values):
    """The number that stands for the values of some variables."""
    return sum([1 << index for index, value in enumerate(values) if value])


def values_of(number, count):
    """The values of so many variables for which a number stands."""
    return tuple([number >> index & 1 == 1 for index in range(count)])


def _passes(statement, place):
    return statement is not None and statement[0] == "pass" and statement[1] == place
