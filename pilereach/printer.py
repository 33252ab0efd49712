"""Programs, written as texts."""

# Behind which operators an operand needs brackets: on the left and on the right.
BRACKETS = {
    "or": ((), ("or",)),
    "and": (("or",), ("or", "and")),
    "same": (("or", "and", "same"), ("or", "and", "same")),
}
SIGNS = {"or": "or", "and": "and", "same": "=="}


def write_program(program):
    """A text of a program, with one space between two tokens."""
    tokens = _declarations("g", program.global_count)
    for index, (count, body) in enumerate(program.procedures):
        tokens.extend(["proc", f"p{index}", "{"] + _declarations("x", count))
        tokens.extend(_tokens_of(body))
        tokens.append("}")
    return " ".join(tokens)


def _declarations(letter, count):
    """The tokens that declare so many variables."""
    tokens = []
    for index in range(count):
        tokens.extend(["var", f"{letter}{index}", ";"])
    return tokens


def _tokens_of(body):
    """The tokens of the statements of a body."""
    tokens = []
    # Tokens, statements, expressions and variables that are still to be
    # written, the next one last.
    parts = list(body[::-1])
    while parts:
        part = parts.pop()
        if isinstance(part, str):
            tokens.append(part)
        else:
            parts.extend(_parts_of(part)[::-1])
    return tokens


def _parts_of(part):
    """The tokens and smaller parts of which something consists."""
    kind = part[0]
    if kind in ("global", "local"):
        return [_variable_name(part)]
    if kind in ("set", "free", "call", "return", "pass"):
        return _parts_of_plain_statement(part) + [";"]
    if kind in ("if", "either", "while", "repeat"):
        return _parts_of_statement(part)
    return _parts_of_expression(part)


def _variable_name(variable):
    scope, index = variable
    return f"g{index}" if scope == "global" else f"x{index}"


def _parts_of_plain_statement(statement):
    """The parts of a statement without bodies, up to its last sign."""
    kind = statement[0]
    if kind == "set":
        return [statement[1], "=", statement[2]]
    if kind == "free":
        return [statement[1], "=", "any"]
    if kind == "call":
        return ["call", f"p{statement[1]}"]
    if kind == "pass":
        return ["pass", str(statement[1])]
    return ["return"]


def _parts_of_statement(statement):
    """The parts of a statement with bodies."""
    kind = statement[0]
    if kind == "either":
        return ["either"] + _block(statement[1]) + ["or"] + _block(statement[2])
    if kind == "repeat":
        return ["repeat"] + _block(statement[1])
    parts = [kind, "(", statement[1], ")"] + _block(statement[2])
    if kind == "if" and statement[3]:
        parts.extend(["else"] + _block(statement[3]))
    return parts


def _block(body):
    return ["{"] + list(body) + ["}"]


def _parts_of_expression(expression):
    """The parts of an expression, with brackets where the grammar needs them."""
    kind = expression[0]
    if kind == "truth":
        return ["true" if expression[1] else "false"]
    if kind == "of":
        return [expression[1]]
    if kind == "not":
        return ["not"] + _operand(expression[1], ("or", "and", "same"))
    left, right = BRACKETS[kind]
    return _operand(expression[1], left) + [SIGNS[kind]] + _operand(expression[2], right)


def _operand(expression, kinds):
    """An operand, within brackets if it is of one of these kinds."""
    return ["(", expression, ")"] if expression[0] in kinds else [expression]
