"""Runs into the set of a net: from where there are any, and the least ones."""

from pilereach.entries import Entries
from pilereach.fitting import need_plain
from pilereach.net import Net
from pilereach.search import Search
from pilereach.way import best_path, rows_and_way


def ahead(machine, net):
    """A net that accepts the configurations from which runs lead into the set."""
    need_plain(machine, net)
    edges = [entry[:3] for entry in Entries(machine, {}, net.edges).entries]
    return Net(net.states, net.letters, net.nodes, edges, net.ends)


def least(machine, net, configuration):
    """The least weight of a run into the set, or None, and a paper of it."""
    need_plain(machine, net)
    search = Search(machine, net)
    numbers = tuple(sorted([(edge, search.weights[place][0]) for place, edge in enumerate(search.entries)]))
    best = best_path(search, net, configuration)
    if best is None:
        return None, ("never", numbers)
    weight, path = best
    rows, way = rows_and_way(search, path)
    return weight, ("least", rows, way, numbers)
