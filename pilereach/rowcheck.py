"""Rows and ways of papers that others may have made, looked at item by item."""

from pilereach.ranges import is_below


def weight_of_way(machine, net, configuration, rows, way):
    """The weight of a way, or None if the way or one of the rows is not right."""
    edges = {edge: True for edge in net.edges}
    read = _read_rows(machine, edges, rows)
    if read is None:
        return None
    state, pile = configuration
    found = _read_items(edges, read, state, pile, way)
    if found is None or found[0] not in net.ends:
        return None
    return found[1]


def _read_rows(machine, edges, rows):
    """The edge and the weight of each row, or None if one is not right."""
    read = []
    for index, parts in rows:
        if not is_below(index, len(machine.steps)):
            return None
        step = machine.steps[index]
        # Only what was read before may be a part of the row.
        found = _read_items(edges, read, step.goal, step.laid, parts)
        if found is None:
            return None
        read.append(((step.state, step.letter, found[0]), step.weight + found[1]))
    return read


def _read_items(edges, read, node, letters, items):
    """The node at which items end, and their weight.

    It is None unless they lead from this node on, read the letters, and are
    edges of the net or rows that were read.
    """
    if len(items) != len(letters):
        return None
    weight = 0
    for letter, item in zip(letters, items):
        found = _read_item(edges, read, item)
        if found is None:
            return None
        edge, more = found
        if edge[0] != node or edge[1] != letter:
            return None
        node = edge[2]
        weight += more
    return node, weight


def _read_item(edges, read, item):
    """The edge of an item and its weight, or None if there is no such item."""
    kind, value = item
    if kind == "net" and value in edges:
        return value, 0
    if kind == "row" and is_below(value, len(read)):
        return read[value]
    return None
