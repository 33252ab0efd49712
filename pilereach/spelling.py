"""Runs of papers, counted and spelled out."""


def length_of(machine, paper):
    """The number of steps of the run of a paper ("least", ..), else None."""
    if paper[0] != "least":
        return None
    rows, way = paper[1:3]
    lengths = []
    for _, parts in rows:
        lengths.append(1 + _length(lengths, parts))
    return _length(lengths, way)


def spelled(machine, paper, most):
    """This run, or None if it has more steps or there is none."""
    length = length_of(machine, paper)
    if length is None or length > most:
        return None
    rows, way = paper[1:3]
    run = []
    # What is still to be spelled out, the next item last.
    items = list(way[::-1])
    while items:
        kind, value = items.pop()
        if kind == "row":
            step, parts = rows[value]
            run.append(step)
            items.extend(parts[::-1])
    return tuple(run)


def _length(lengths, items):
    """The steps of the runs of some items; lengths has those of the rows."""
    return sum([lengths[value] for kind, value in items if kind == "row"])
