"""Texts of programs, written another way than the package writes them."""

NAMES = (
    "a b x0 g0 p0 p9 z9z v va vars var1 procs proc2 callx iff if0 elsewhere either2 orx or1 whilex repeats "
    "returns pass7 anyx any1 truex true1 falsex nota not1 andx and2 e i o"
).split()
GAPS = (" ", "\n", "  ", " \n ", "\n\n")
# How tightly each form of an expression holds together.
TIGHTNESS = {"or": 1, "and": 2, "same": 3, "not": 4, "truth": 5, "of": 5}
SIGNS = {"or": "or", "and": "and", "same": "=="}


def expression_tokens(expression, names, least=1, needless=lambda: False):
    """The tokens of an expression, within brackets if it is less tight than this."""
    kind, *parts = expression
    if kind == "truth":
        tokens = ["true" if parts[0] else "false"]
    elif kind == "of":
        tokens = [names[parts[0]]]
    elif kind == "not":
        tokens = ["not"] + expression_tokens(parts[0], names, 4, needless)
    else:
        left = TIGHTNESS[kind] + (kind == "same")
        tokens = expression_tokens(parts[0], names, left, needless) + [SIGNS[kind]]
        tokens += expression_tokens(parts[1], names, TIGHTNESS[kind] + 1, needless)
    brackets = TIGHTNESS[kind] < least
    while brackets or needless():
        tokens = ["("] + tokens + [")"]
        brackets = False
    return tokens


def body_tokens(body, names, needless=lambda: False):
    """The tokens of statements; names has those of variables and, by number, of procedures."""
    tokens = []
    for kind, *parts in body:
        if kind == "set":
            tokens += [names[parts[0]], "="] + expression_tokens(parts[1], names, 1, needless) + [";"]
        elif kind == "free":
            tokens += [names[parts[0]], "=", "any", ";"]
        elif kind == "call":
            tokens += ["call", names[parts[0]], ";"]
        elif kind == "pass":
            tokens += ["pass", str(parts[0]), ";"]
        elif kind == "return":
            tokens += ["return", ";"]
        else:
            bodies = parts
            tokens.append(kind)
            if kind in ("if", "while"):
                tokens += ["("] + expression_tokens(parts[0], names, 1, needless) + [")"]
                bodies = parts[1:]
            for index, inner in enumerate(bodies):
                if kind == "if" and index == 1 and not inner and not needless():
                    continue
                if index == 1:
                    tokens.append("else" if kind == "if" else "or")
                tokens += ["{"] + body_tokens(inner, names, needless) + ["}"]
    return tokens


def program_tokens(program, names_of, needless=lambda: False):
    """The tokens of a program; names_of gives the names of each procedure's variables."""
    shared, procedures, own = names_of
    tokens = []
    for name in shared:
        tokens += ["var", name, ";"]
    for index, (_, body) in enumerate(program.procedures):
        names = {("global", number): name for number, name in enumerate(shared)}
        names.update({("local", number): name for number, name in enumerate(own[index])})
        names.update(enumerate(procedures))
        tokens += ["proc", procedures[index], "{"]
        for name in own[index]:
            tokens += ["var", name, ";"]
        tokens += body_tokens(body, names, needless) + ["}"]
    return tokens


def plain_names(program):
    """The names of point 50."""
    return (
        [f"g{index}" for index in range(program.global_count)],
        [f"p{index}" for index in range(len(program.procedures))],
        [[f"x{index}" for index in range(count)] for count, _ in program.procedures],
    )


def random_names(chance, program):
    """Other names; a local variable may hide a global one that its procedure does not name."""
    shared = chance.sample(NAMES, program.global_count)
    own = []
    for count, body in program.procedures:
        named = repr(body)
        taken = [name for index, name in enumerate(shared) if repr(("global", index)) in named]
        own.append(chance.sample([name for name in NAMES if name not in taken], count))
    return shared, chance.sample(NAMES, len(program.procedures)), own


def random_text(chance, program):
    """A text of the program with other names, needless brackets and any gaps."""
    share = chance.choice((0, 0.1, 0.3))
    tokens = program_tokens(program, random_names(chance, program), lambda: chance.random() < share)
    wide = chance.random()
    text = chance.choice(("",) + GAPS)
    for token in tokens:
        if text[-1:].isalnum() and token[0].isalnum() or chance.random() < wide:
            text += chance.choice(GAPS)
        text += token
    return text + chance.choice(("",) + GAPS)
