"""Paths of edges that were found, and the rows and ways that tell their runs.

What is found has entries, of which the first three parts are an edge, and for
each entry a row (step, parts), with None as the step of an edge of the net and
with the places of earlier entries as parts. A path is a list of places.
"""


def needed_rows(rows, path):
    """The places of all rows that a path needs, ascending."""
    needed = {place: True for place in path}
    # Parts stand before their rows: from the last row on, each one is known
    # to be needed or not before its parts are looked at.
    for place in reversed(range(len(rows))):
        if place in needed:
            for part in rows[place][1]:
                needed[part] = True
    return sorted(needed)


def rows_and_way(found, path):
    """The rows that a path needs, and the way along it."""
    kept = [place for place in needed_rows(found.rows, path) if found.rows[place][0] is not None]
    numbers = {place: number for number, place in enumerate(kept)}
    rows = [(found.rows[place][0], _items(found, numbers, found.rows[place][1])) for place in kept]
    return tuple(rows), _items(found, numbers, path)


def best_path(search, net, configuration):
    """The path of least weight that reads the configuration to an end.

    It is a pair (weight, path); without such a path it is None. Among paths of
    one weight, one whose run has the fewest steps is taken.
    """
    state, pile = configuration
    layers = [{state: (0, 0, None, None)}]
    for letter in pile:
        layers.append(_layer_after(search, layers[-1], letter))
    last = layers[-1]
    least = None
    for end in net.ends:
        if end in last and (least is None or last[end][:2] < last[least][:2]):
            least = end
    if least is None:
        return None
    return last[least][0], _path_back(layers, least)


def _layer_after(search, layer, letter):
    """The nodes one letter further.

    Each one has its weight, number of steps, node before and last edge.
    """
    after = {}
    for node, row in layer.items():
        for goal, place in search.places.get((node, letter), {}).items():
            weight = (row[0] + search.weights[place][0], row[1] + search.weights[place][1])
            if goal not in after or weight < after[goal][:2]:
                after[goal] = (weight[0], weight[1], node, place)
    return after


def _path_back(layers, end):
    """The path that ends at this node of the last layer."""
    path = []
    for layer in layers[:0:-1]:
        before, place = layer[end][2:]
        path.append(place)
        end = before
    return path[::-1]


def _items(found, numbers, places):
    return tuple(
        [("row", numbers[place]) if place in numbers else ("net", found.entries[place][:3]) for place in places]
    )
