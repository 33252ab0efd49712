"""The errors that the program raises.

No message shows a number: Python refuses to write out very large ones.
"""


class PileError(ValueError):
    """The base class of all errors of the program."""


class InvalidMachine(PileError):
    """The parts of a machine do not fit together."""


class InvalidNet(PileError):
    """The parts of a net do not fit together."""


class Mismatch(PileError):
    """Two things belong to different numbers of states or letters."""


class NotPlain(PileError):
    """A net has an edge that ends at a state node where none may."""


class NoStep(PileError):
    """There is no possible step: index tells which one was asked for."""

    def __init__(self, index):
        PileError.__init__(self, "there is no such step, or it is not possible")
        self.index = index


class InvalidProgram(PileError):
    """A program is wrong: index is that of the procedure, or -1."""

    def __init__(self, index):
        PileError.__init__(self, "this is no program")
        self.index = index


class InvalidText(PileError):
    """A text is none of a program: where is the index of the fault."""

    def __init__(self, where):
        PileError.__init__(self, "this is no text of a program")
        self.where = where
