"""What follows when the innermost frame goes on from its point."""

from pilereach.expressions import value_of


def outcomes(points, shared, frame):
    """Pairs of the values of the globals and the frames in place of this one.

    shared has the values of the globals before.
    """
    point, own = frame
    statement = points.statements[point]
    if statement is None or statement[0] == "return":
        return [(shared, ())]
    behind = points.follows[point]
    if statement[0] == "call":
        return [(shared, (points.first_frames[statement[1]], (behind, own)))]
    if statement[0] == "set":
        return [_assigned(shared, own, behind, statement[1], value_of(statement[2], shared, own))]
    if statement[0] == "free":
        return [_assigned(shared, own, behind, statement[1], value) for value in (False, True)]
    return [(shared, ((goal, own),)) for goal in _goals(points, shared, frame)]


def _assigned(shared, own, behind, variable, value):
    """The outcome in which a variable has a new value."""
    scope, index = variable
    if scope == "global":
        return _with_value(shared, index, value), ((behind, own),)
    return shared, ((behind, _with_value(own, index, value)),)


def _with_value(known, index, value):
    return known[:index] + (value,) + known[index + 1:]


def _goals(points, shared, frame):
    """The points to which a statement leads that changes no variable and no other frame."""
    point, own = frame
    statement = points.statements[point]
    behind = points.follows[point]
    entries = points.entries[point]
    if statement[0] == "pass":
        return [behind]
    if statement[0] == "either":
        return list(entries)
    if statement[0] == "repeat":
        return [entries[0], behind]
    holds = value_of(statement[1], shared, own)
    if statement[0] == "if":
        return [entries[0] if holds else entries[1]]
    return [entries[0] if holds else behind]
