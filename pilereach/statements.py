"""The parts of statements."""

from pilereach.expressions import operands_first


def bodies_of(statement):
    """The bodies of a statement, in order."""
    kind = statement[0]
    if kind in ("if", "while"):
        return statement[2:]
    if kind in ("either", "repeat"):
        return statement[1:]
    return ()


def variables_of(statement):
    """The variables that a statement names, without those in its bodies."""
    kind = statement[0]
    if kind == "free":
        return [statement[1]]
    if kind == "set":
        return [statement[1]] + _variables_in(statement[2])
    if kind in ("if", "while"):
        return _variables_in(statement[1])
    return []


def all_statements(body):
    """The statements of a body, and those in their own bodies, in no order."""
    found = list(body)
    at = 0
    while at < len(found):
        bodies = bodies_of(found[at])
        for inner in bodies:
            found.extend(inner)
        at += 1
    return found


def _variables_in(expression):
    return [part[1] for part in operands_first(expression) if part[0] == "of"]
