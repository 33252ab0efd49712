"""Runs out of the set of a net: what they lead to, and from where."""

from pilereach.entries import Entries
from pilereach.fitting import need_plain
from pilereach.forwards import Forwards
from pilereach.meeting import meeting
from pilereach.net import single
from pilereach.way import rows_and_way


def behind(machine, net):
    """A net that accepts what runs from the set of the net lead to."""
    need_plain(machine, net)
    return Forwards(machine, net).closed_net()


def came(machine, net, configuration):
    """Tell whether a run from the set leads here, with a paper of it."""
    need_plain(machine, net)
    goal = single(net.states, net.letters, configuration)
    found = Entries(machine, {}, goal.edges)
    met = meeting(net, goal, found.entries)
    if met is None:
        closed = behind(machine, net)
        return False, ("stays", closed.nodes, closed.edges, closed.ends)
    state, path = met
    begin = (state, tuple([found.entries[place][1] for place in path]))
    rows, way = rows_and_way(found, path)
    return True, ("came", begin, rows, way)
