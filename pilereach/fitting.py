"""Checks that the functions of several files make before they begin."""

from pilereach.errors import Mismatch, NotPlain


def need_alike(a, b):
    """Raise Mismatch unless both belong to as many states and letters."""
    if a.states != b.states or a.letters != b.letters:
        raise Mismatch("the numbers of states or letters differ")


def need_plain(machine, net):
    """Raise Mismatch or NotPlain unless the net is plain and fits."""
    need_alike(machine, net)
    if not net.is_plain:
        raise NotPlain("an edge of the net ends at a state node")
