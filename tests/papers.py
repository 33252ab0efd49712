"""Changes of papers: each part of one is changed in all ways that its kind lets."""

BIG = 10 ** 40

EDGE = ("tuple", "number", "number", "number")
ITEM = ("item",)
ROWS = ("list", ("tuple", "number", ("list", ITEM)))
NUMBERS = ("list", ("tuple", EDGE, "number"))
MOVES = ("list", ("tuple", "number", "part"))
CONFIGURATION = ("tuple", "number", ("list", "number"))
HEAD = ("tuple", "number", "number")

# The parts of the six forms, behind the word.
FORMS = {
    "least": (ROWS, ("list", ITEM), NUMBERS),
    "never": (NUMBERS,),
    "came": (CONFIGURATION, ROWS, ("list", ITEM)),
    "stays": ("number", ("list", EDGE), ("list", "number")),
    "ever": (("list", ("tuple", "number", ("list", "number"))), ("list", "number"), MOVES, MOVES),
    "not": (("list", ("tuple", "number", "number", "number", "truth")), ("list", ("tuple", HEAD, "number"))),
}


def without(parts, index):
    """A tuple without the part at an index."""
    return parts[:index] + parts[index + 1:]


def exchanged(parts, index, part):
    """A tuple with another part at an index."""
    return parts[:index] + (part,) + parts[index + 1:]


def changes(paper):
    """All papers that differ from this one in one place."""
    for index, kind in enumerate(FORMS[paper[0]]):
        for part in changes_of(kind, paper[index + 1]):
            yield exchanged(paper, index + 1, part)


def changes_of(kind, value):
    """All values of a kind that differ from this one in one place."""
    if kind == "number":
        yield from other_numbers(value)
    elif kind == "truth":
        yield not value
    elif kind == "part":
        yield from (0, 1, 2, -1, BIG, -BIG) if value is None else [None] + other_numbers(value)
    elif kind == ITEM:
        yield from changes_of_item(value)
    elif kind[0] == "tuple":
        for index, part_kind in enumerate(kind[1:]):
            for part in changes_of(part_kind, value[index]):
                yield exchanged(value, index, part)
    else:
        yield from changes_of_list(kind[1], value)


def changes_of_item(item):
    kind, value = item
    if kind == "net":
        for edge in changes_of(EDGE, value):
            yield kind, edge
        for index in (0, 1, -1, BIG):
            yield "row", index
    else:
        for index in other_numbers(value):
            yield kind, index
        yield "net", (0, 0, 0)
        yield "net", (BIG, -BIG, BIG)


def changes_of_list(kind, value):
    for index in range(len(value)):
        yield without(value, index)
        yield value[:index] + value[index:index + 1] + value[index:]
        for part in changes_of(kind, value[index]):
            yield exchanged(value, index, part)
        if value[index:index + 2] != value[index:index + 2][::-1]:
            yield value[:index] + value[index:index + 2][::-1] + value[index + 2:]
    if len(value) != 1:
        yield value[::-1]
        yield ()
    for part in first_values(kind):
        yield value + (part,)
        yield (part,) + value


def first_values(kind):
    """Some values of a kind, for tuples that may be empty."""
    if kind == "number":
        return [0, -1, BIG]
    if kind == "part":
        return [None]
    if kind == "truth":
        return [False]
    if kind == ITEM:
        return [("net", (0, 0, 0)), ("row", 0), ("row", -1)]
    if kind[0] == "list":
        return [()]
    return [tuple(first_values(part)[0] for part in kind[1:])]


def other_numbers(number):
    """Numbers near this one, far from it, and below 0 as counted from an end."""
    numbers = [number + 1, number - 1, -1 - number, -number, 0, BIG, -BIG]
    numbers.extend(number - many for many in range(2, 8))
    return [other for index, other in enumerate(numbers) if other != number and other not in numbers[:index]]


def changed_by_chance(chance, paper):
    """A paper that differs from this one in one place, or is equal to it."""
    index = chance.randrange(len(FORMS[paper[0]]))
    part = changed_value(chance, FORMS[paper[0]][index], paper[index + 1])
    return exchanged(paper, index + 1, part)


def changed_value(chance, kind, value):
    """The value with a change, somewhere within it."""
    if kind == ITEM or not isinstance(kind, tuple):
        return chance.choice(list(changes_of(kind, value)))
    is_list = kind[0] == "list"
    if is_list and (not value or chance.random() < 0.2):
        return chance.choice(changes_of_order(chance, kind[1], value))
    index = chance.randrange(len(value))
    part_kind = kind[1] if is_list else kind[index + 1]
    return exchanged(value, index, changed_value(chance, part_kind, value[index]))


def changes_of_order(chance, kind, value):
    """Changes of the number or the order of the parts of a tuple."""
    if not value:
        return [(part,) for part in first_values(kind)]
    index = chance.randrange(len(value))
    return [
        without(value, index),
        value[:index] + value[index:index + 1] + value[index:],
        value[:index] + value[index:index + 2][::-1] + value[index + 2:],
        value + (chance.choice(value),),
    ]
