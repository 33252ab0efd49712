"""What programs mean, worked out another way: by the sizes of statements.

Nothing here uses the package beyond the fields of programs.
"""


def size(statement):
    """How many points a statement and those in its bodies have."""
    return 1 + sum(size(inner) for body in bodies(statement) for inner in body)


def bodies(statement):
    return {"if": statement[2:], "either": statement[1:], "while": statement[2:], "repeat": statement[1:]}.get(
        statement[0], ()
    )


def points_of(program):
    """For each point (statement or None, number of locals, follower, entries), and the first frames."""
    table = {}
    first_frames = []
    point = 0
    for count, body in program.procedures:
        end = point + sum(size(statement) for statement in body)
        first_frames.append((point, (False,) * count))
        lay_out(table, count, body, point, end)
        table[end] = (None, count, None, ())
        point = end + 1
    return table, first_frames


def lay_out(table, count, body, point, behind):
    """Lay out a body from a point on, with the point behind it; its entry."""
    entry = point if body else behind
    for index, statement in enumerate(body):
        follower = behind if index == len(body) - 1 else point + size(statement)
        tail = follower if statement[0] in ("if", "either") else point
        entries = []
        inner_point = point + 1
        for inner in bodies(statement):
            entries.append(lay_out(table, count, inner, inner_point, tail))
            inner_point += sum(size(part) for part in inner)
        table[point] = (statement, count, follower, tuple(entries))
        point += size(statement)
    return entry


def truth(expression, values):
    """The value of an expression; values has one for each variable."""
    kind, *parts = expression
    if kind == "truth":
        return parts[0]
    if kind == "of":
        return values[parts[0]]
    known = [truth(part, values) for part in parts]
    return {"not": lambda: not known[0], "and": lambda: all(known), "or": lambda: any(known)}.get(
        kind, lambda: known[0] is known[1]
    )()


def begin(program):
    return ((False,) * program.global_count, (points_of(program)[1][0],))


def after(program, situation):
    """Point 43."""
    shared, frames = situation
    if not frames:
        return []
    table, first_frames = points_of(program)
    (point, own), rest = frames[0], frames[1:]
    statement, _, follower, entries = table[point]
    values = {("global", index): value for index, value in enumerate(shared)}
    values.update({("local", index): value for index, value in enumerate(own)})
    kind = statement[0] if statement else "return"
    if kind == "return":
        return [(shared, rest)]
    if kind == "call":
        return [(shared, (first_frames[statement[1]], (follower, own)) + rest)]
    if kind in ("set", "free"):
        found = []
        for value in [truth(statement[2], values)] if kind == "set" else [False, True]:
            values[statement[1]] = value
            found.append(
                (
                    tuple(values[("global", index)] for index in range(len(shared))),
                    ((follower, tuple(values[("local", index)] for index in range(len(own)))),) + rest,
                )
            )
        return found
    goals = {"pass": [follower], "either": list(entries), "repeat": [*entries, follower]}.get(kind)
    if goals is None:
        goals = [[*entries, follower][0 if truth(statement[1], values) else 1]]
    return [(shared, ((goal, own),) + rest) for goal in goals]


def frames_of(program):
    """All frames, in the order of the letters (point 44)."""
    frames = []
    for point, row in sorted(points_of(program)[0].items()):
        for number in range(2 ** row[1]):
            frames.append((point, values_of(number, row[1])))
    return frames


def values_of(number, count):
    return tuple(number // 2 ** index % 2 == 1 for index in range(count))


def number_of(values):
    return sum(2 ** index for index, value in enumerate(values) if value)


def machine_rows(program):
    """The steps of the machine of a program, as tuples (point 44)."""
    frames = frames_of(program)
    rows = []
    for letter, frame in enumerate(frames):
        for state in range(2 ** program.global_count):
            for shared, laid in after(program, (values_of(state, program.global_count), (frame,))):
                pile = tuple(frames.index(part) for part in laid)
                rows.append((state, letter, number_of(shared), pile, 1))
    return rows
