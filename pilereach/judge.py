"""The judge of papers on runs into a set and out of one."""

from pilereach.bounds import Bounds
from pilereach.closure import is_closed_forwards
from pilereach.errors import InvalidNet
from pilereach.fitting import need_plain
from pilereach.net import Net, single
from pilereach.ranges import is_below
from pilereach.rowcheck import weight_of_way


def takes_least(machine, net, configuration, weight, paper):
    """Tell whether the paper proves that this is the least weight; None is none."""
    need_plain(machine, net)
    if paper[0] == "least" and weight is not None:
        _, rows, way, numbers = paper
        if weight_of_way(machine, net, configuration, rows, way) != weight:
            return False
    elif paper[0] == "never" and weight is None:
        _, numbers = paper
    else:
        return False
    bounds = Bounds(numbers)
    return bounds.are_closed(machine, net) and bounds.bound(net, configuration) == weight


def takes_came(machine, net, configuration, verdict, paper):
    """Tell whether the paper proves that a run leads here, or that none does."""
    need_plain(machine, net)
    if paper[0] == "came":
        return verdict and _takes_run(machine, net, configuration, paper)
    if paper[0] == "stays":
        return not verdict and _takes_closed_net(machine, net, configuration, paper)
    return False


def _takes_run(machine, net, configuration, paper):
    """Tell whether the paper tells a run from the set to the configuration."""
    _, begin, rows, way = paper
    if not _is_in_range(net, begin) or not net.accepts(begin):
        return False
    goal = single(net.states, net.letters, configuration)
    return weight_of_way(machine, goal, begin, rows, way) is not None


def _is_in_range(net, configuration):
    """Tell whether its state and its letters are those of the net."""
    state, pile = configuration
    return is_below(state, net.states) and all([is_below(letter, net.letters) for letter in pile])


def _takes_closed_net(machine, net, configuration, paper):
    """Tell whether the paper tells a net that no run from the set leaves."""
    _, nodes, edges, ends = paper
    try:
        closed = Net(net.states, net.letters, nodes, edges, ends)
    except InvalidNet:
        return False
    return (
        _contains(closed, net)
        and is_closed_forwards(machine, closed)
        and not closed.accepts(configuration)
    )


def _contains(large, small):
    """Tell whether a net has all nodes, edges and ends of another one."""
    edges = {edge: True for edge in large.edges}
    ends = {end: True for end in large.ends}
    return (
        large.nodes >= small.nodes
        and all([edge in edges for edge in small.edges])
        and all([end in ends for end in small.ends])
    )
