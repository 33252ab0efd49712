"""Programs for the tests: made by chance from a fixed beginning, and deep ones."""

from pilereach.program import Program


def random_expression(chance, variables, depth):
    kind = chance.choice(("truth", "of", "of", "not", "and", "or", "same"))
    if depth == 0 or kind in ("truth", "of"):
        if variables and (kind == "of" or chance.random() < 0.7):
            return ("of", chance.choice(variables))
        return ("truth", chance.random() < 0.5)
    if kind == "not":
        return ("not", random_expression(chance, variables, depth - 1))
    left = random_expression(chance, variables, depth - 1)
    return (kind, left, random_expression(chance, variables, depth - 1))


def random_body(chance, variables, procedures, depth, most):
    return tuple(
        random_statement(chance, variables, procedures, depth) for _ in range(chance.randint(0, most))
    )


def random_statement(chance, variables, procedures, depth):
    kinds = ["call", "return", "pass", "pass"]
    if variables:
        kinds.extend(["set", "free"] * 2)
    if depth > 0:
        kinds.extend(["if", "either", "while", "repeat"])
    kind = chance.choice(kinds)
    if kind == "set":
        return (kind, chance.choice(variables), random_expression(chance, variables, 2))
    if kind == "free":
        return (kind, chance.choice(variables))
    if kind == "call":
        return (kind, chance.randrange(procedures))
    if kind == "pass":
        return (kind, chance.randrange(3))
    if kind == "return":
        return (kind,)
    bodies = [random_body(chance, variables, procedures, depth - 1, 2) for _ in range(2)]
    if kind == "if":
        return (kind, random_expression(chance, variables, 2), *bodies)
    if kind == "either":
        return (kind, *bodies)
    if kind == "while":
        return (kind, random_expression(chance, variables, 2), bodies[0])
    return (kind, bodies[0])


def random_program(chance, most_globals=2, most_procedures=3, most_locals=2, depth=2, most=3):
    """A small program."""
    global_count = chance.randint(0, most_globals)
    procedures = chance.randint(1, most_procedures)
    rows = []
    for _ in range(procedures):
        count = chance.randint(0, most_locals)
        variables = [("global", index) for index in range(global_count)]
        variables += [("local", index) for index in range(count)]
        rows.append((count, random_body(chance, variables, procedures, depth, most)))
    return Program(global_count, rows)


def copy_of(value):
    """An equal tuple that shares no tuple with this one that is not empty."""
    return tuple([copy_of(part) for part in value]) if isinstance(value, tuple) else value


def copy_of_program(program):
    return Program(program.global_count, list(copy_of(program.procedures)))


def deep_expression(kind, depth, leaf=("truth", True), on_the_left=True):
    """An expression of one operator over and over, so many of them in one another."""
    expression = leaf
    for _ in range(depth):
        if kind == "not":
            expression = ("not", expression)
        elif on_the_left:
            expression = (kind, expression, leaf)
        else:
            expression = (kind, leaf, expression)
    return expression


def deep_statement(kind, depth, leaf=("return",)):
    """A statement of one kind within bodies of its kind, the leaf innermost."""
    statement = leaf
    for index in range(depth):
        if kind == "if":
            bodies = ((statement,), ()) if index % 2 else ((), (statement,))
            statement = ("if", ("truth", index % 2 == 1), *bodies)
        elif kind == "either":
            statement = ("either", (), (statement,)) if index % 2 else ("either", (statement,), ())
        elif kind == "while":
            statement = ("while", ("truth", True), (statement,))
        else:
            statement = ("repeat", (statement,))
    return statement


def situations_from(program, begin, after, steps):
    """All situations to which so many steps lead from the beginning, with their distances."""
    distances = {begin(program): 0}
    queue = list(distances)
    for situation in queue:
        if distances[situation] < steps:
            for follower in after(program, situation):
                if follower not in distances:
                    distances[follower] = distances[situation] + 1
                    queue.append(follower)
    return distances
