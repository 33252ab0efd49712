"""Expressions and their values.

They may be deep: all is done part by part, without functions that call
themselves.
"""


def operands_first(expression):
    """All parts of an expression, each one behind its operands."""
    found = []
    stack = [expression]
    while stack:
        part = stack.pop()
        found.append(part)
        if part[0] in ("not", "and", "or", "same"):
            stack.extend(part[1:])
    # Turned round, an operator comes last, and its left operand first.
    return found[::-1]


def value_of(expression, shared, own):
    """The value, where shared has those of the globals and own of the locals."""
    known = []
    for part in operands_first(expression):
        if part[0] == "truth":
            known.append(part[1])
        elif part[0] == "of":
            scope, index = part[1]
            known.append(shared[index] if scope == "global" else own[index])
        elif part[0] == "not":
            known.append(not known.pop())
        else:
            right = known.pop()
            left = known.pop()
            known.append(_joined(part[0], left, right))
    return known[0]


def _joined(kind, left, right):
    """The value of an operator with two operands, which have these values."""
    if kind == "and":
        return left and right
    if kind == "or":
        return left or right
    return left == right
