"""Checks of papers, as the points of the document tell them, and slow answers.

Nothing here uses the package beyond the fields of machines and nets.
"""

import heapq
import itertools


def accepts(net, configuration):
    """Point 11, edge by edge."""
    state, pile = configuration
    nodes = {state}
    for letter in pile:
        nodes = {goal for node, read, goal in net.edges if node in nodes and read == letter}
    return bool(nodes & set(net.ends))


def configurations(states, letters, height):
    """All configurations up to this height, in the order of point 14."""
    piles = [pile for many in range(height + 1) for pile in itertools.product(range(letters), repeat=many)]
    return [(state, pile) for pile in piles for state in range(states)]


def after(machine, configuration):
    """Pairs of a possible step and of the configuration to which it leads."""
    state, pile = configuration
    return [
        (index, (step.goal, step.laid + pile[1:]))
        for index, step in enumerate(machine.steps)
        if pile and (step.state, step.letter) == (state, pile[0])
    ]


def take_all(machine, configuration, run):
    """The configuration to which a run leads; fails if it is none."""
    for index in run:
        goals = dict(after(machine, configuration))
        if index not in goals:
            raise AssertionError("no run")
        configuration = goals[index]
    return configuration


def reached(machine, begins, height):
    """All that runs lead to which never pass over this height."""
    seen = set(begins)
    queue = list(seen)
    for configuration in queue:
        for _, goal in after(machine, configuration):
            if goal not in seen and len(goal[1]) <= height:
                seen.add(goal)
                queue.append(goal)
    return seen


def least_weights(machine, net, height):
    """The least weights of runs into the set that never pass over this height."""
    everything = configurations(machine.states, machine.letters, height)
    before = {configuration: [] for configuration in everything}
    for configuration in everything:
        for index, goal in after(machine, configuration):
            if goal in before:
                before[goal].append((configuration, machine.steps[index].weight))
    queue = [(0, configuration) for configuration in everything if accepts(net, configuration)]
    heapq.heapify(queue)
    weights = {}
    while queue:
        weight, configuration = heapq.heappop(queue)
        if configuration not in weights:
            weights[configuration] = weight
            for origin, more in before[configuration]:
                heapq.heappush(queue, (weight + more, origin))
    return weights


def is_number(value):
    return type(value) is int


def all_tuples(value):
    """Whether it is built of tuples, numbers, strings, truth values and None."""
    if type(value) is tuple:
        return all(all_tuples(part) for part in value)
    return type(value) in (int, str, bool, type(None))


def row_edges(machine, net, rows):
    """The edges and weights of rows that are right (point 19), else None."""
    made = []
    known = set(net.edges)
    for index, (number, parts) in enumerate(rows):
        if not 0 <= number < len(machine.steps):
            return None
        step = machine.steps[number]
        if len(parts) != len(step.laid):
            return None
        weight = step.weight
        node = step.goal
        for letter, (kind, value) in zip(step.laid, parts):
            if kind == "net":
                edge, more = value, 0
                if edge not in known:
                    return None
            else:
                if kind != "row" or not 0 <= value < index:
                    return None
                edge, more = made[value]
            if edge[:2] != (node, letter):
                return None
            node = edge[2]
            weight += more
        made.append(((step.state, step.letter, node), weight))
    return made


def way_weight(machine, net, rows, way, configuration):
    """The weight of a way for right rows (point 20), None if either is wrong."""
    made = row_edges(machine, net, rows)
    state, pile = configuration
    if made is None or len(way) != len(pile):
        return None
    node = state
    weight = 0
    for letter, (kind, value) in zip(pile, way):
        if kind == "net":
            edge, more = value, 0
            if edge not in set(net.edges):
                return None
        else:
            if kind != "row" or not 0 <= value < len(rows):
                return None
            edge, more = made[value]
        if edge[:2] != (node, letter):
            return None
        node = edge[2]
        weight += more
    return weight if node in net.ends else None


def run_of(rows, way):
    """The run of a way (point 21), spelled out."""
    runs = []
    for number, parts in rows:
        runs.append((number,) + sum([runs[value] for kind, value in parts if kind == "row"], ()))
    return sum([runs[value] for kind, value in way if kind == "row"], ())


def length_of_run(rows, way):
    """How many steps that would be."""
    lengths = []
    for _, parts in rows:
        lengths.append(1 + sum(lengths[value] for kind, value in parts if kind == "row"))
    return sum(lengths[value] for kind, value in way if kind == "row")


def are_closed(machine, net, numbers):
    """Point 22."""
    edges = [edge for edge, _ in numbers]
    if any(a >= b for a, b in zip(edges, edges[1:])) or any(number < 0 for _, number in numbers):
        return False
    for node, letter, goal in edges:
        if not (0 <= node < net.nodes and 0 <= letter < net.letters and 0 <= goal < net.nodes):
            return False
    known = dict(numbers)
    if any(known.get(edge) != 0 for edge in net.edges):
        return False
    begins = {}
    for (node, letter, goal), number in numbers:
        begins.setdefault((node, letter), []).append((goal, number))
    for step in machine.steps:
        ends = [(step.goal, step.weight)]
        for letter in step.laid:
            ends = [(goal, sum_ + more) for node, sum_ in ends for goal, more in begins.get((node, letter), ())]
        for goal, most in ends:
            if known.get((step.state, step.letter, goal), most + 1) > most:
                return False
    return True


def bound_of(net, numbers, configuration):
    """The bound of closed numbers for a configuration (point 22)."""
    state, pile = configuration
    begins = {}
    for (node, letter, goal), number in numbers:
        begins.setdefault((node, letter), []).append((goal, number))
    layer = {state: 0}
    for letter in pile:
        further = {}
        for node, sum_ in layer.items():
            for goal, more in begins.get((node, letter), ()):
                further[goal] = min(sum_ + more, further.get(goal, sum_ + more))
        layer = further
    return min([layer[end] for end in net.ends if end in layer], default=None)


def is_least(machine, net, configuration, answer):
    """Point 24: whether weight and paper are right."""
    weight, paper = answer
    if not all_tuples(answer) or paper[0] != ("never" if weight is None else "least"):
        return False
    if weight is None:
        kind, numbers = paper
        return kind == "never" and are_closed(machine, net, numbers) and bound_of(net, numbers, configuration) is None
    kind, rows, way, numbers = paper
    return (
        kind == "least"
        and is_number(weight)
        and way_weight(machine, net, rows, way, configuration) == weight
        and are_closed(machine, net, numbers)
        and bound_of(net, numbers, configuration) == weight
    )


def is_closed_forwards(machine, nodes, edges, ends):
    """Point 27."""
    known = set(edges)
    begins = {}
    goals = {}
    for node, letter, goal in edges:
        begins.setdefault(node, []).append((letter, goal))
        goals.setdefault((node, letter), []).append(goal)
    looked_at = set()
    for step in machine.steps:
        for below in goals.get((step.state, step.letter), ()):
            if len(step.laid) == 0:
                if (step.goal, below) in looked_at:
                    continue
                looked_at.add((step.goal, below))
                if any((step.goal, letter, goal) not in known for letter, goal in begins.get(below, ())):
                    return False
                if below in ends and step.goal not in ends:
                    return False
            elif len(step.laid) == 1:
                if (step.goal, step.laid[0], below) not in known:
                    return False
            else:
                between = goals.get((step.goal, step.laid[0]), ())
                if not any((node, step.laid[1], below) in known for node in between):
                    return False
    return True


def single_parts(states, configuration):
    """Nodes, edges and ends of point 12's net of one configuration."""
    state, pile = configuration
    edges = []
    node = state
    for index, letter in enumerate(pile):
        edges.append((node, letter, states + index))
        node = states + index
    return states + len(pile), tuple(edges), (node,)


class Parts:
    """What the checks need of a net."""

    def __init__(self, states, letters, nodes, edges, ends):
        self.states = states
        self.letters = letters
        self.nodes = nodes
        self.edges = tuple(sorted(set(edges)))
        self.ends = tuple(sorted(set(ends)))


def is_came(machine, net, configuration, answer):
    """Point 28: whether verdict and paper fit together and are right."""
    verdict, paper = answer
    if not all_tuples(answer) or type(verdict) is not bool or paper[0] != ("came" if verdict else "stays"):
        return False
    if verdict:
        kind, begin, rows, way = paper
        goal = Parts(net.states, net.letters, *single_parts(net.states, configuration))
        return (
            kind == "came"
            and 0 <= begin[0] < net.states
            and accepts(net, begin)
            and way_weight(machine, goal, rows, way, begin) is not None
        )
    kind, nodes, edges, ends = paper
    closed = Parts(net.states, net.letters, nodes, edges, ends)
    in_range = all(0 <= a < nodes and 0 <= b < net.letters and 0 <= c < nodes for a, b, c in edges)
    return (
        kind == "stays"
        and nodes >= net.nodes
        and in_range
        and all(0 <= end < nodes for end in ends)
        and set(net.edges) <= set(edges)
        and set(net.ends) <= set(ends)
        and is_closed_forwards(machine, nodes, closed.edges, set(ends))
        and not accepts(closed, configuration)
    )


def taking_rows(machine, marked, rows):
    """What right rows of taking off take off, end in, and whether marked."""
    made = []
    for index, (number, parts) in enumerate(rows):
        if not 0 <= number < len(machine.steps):
            return None
        step = machine.steps[number]
        if len(parts) != len(step.laid):
            return None
        state = step.goal
        mark = number in marked
        for letter, part in zip(step.laid, parts):
            if not 0 <= part < index or made[part][:2] != (state, letter):
                return None
            state = made[part][2]
            mark = mark or made[part][3]
        made.append((step.state, step.letter, state, mark))
    return made


def move_ends(machine, marked, made, move):
    """Head before, head behind, and whether it is marked; None if it is none."""
    number, part = move
    if not 0 <= number < len(machine.steps):
        return None
    step = machine.steps[number]
    mark = number in marked
    if part is None:
        if not step.laid:
            return None
        return (step.state, step.letter), (step.goal, step.laid[0]), mark
    if len(step.laid) != 2 or not 0 <= part < len(made) or made[part][:2] != (step.goal, step.laid[0]):
        return None
    return (step.state, step.letter), (made[part][2], step.laid[1]), mark or made[part][3]


def is_ever(machine, marked, configuration, paper):
    """Point 32."""
    kind, rows, descent, way, ring = paper
    state, pile = configuration
    made = taking_rows(machine, set(marked), rows)
    if kind != "ever" or made is None or not len(descent) < len(pile) or not ring:
        return False
    for letter, index in zip(pile, descent):
        if not 0 <= index < len(made) or made[index][:2] != (state, letter):
            return False
        state = made[index][2]
    head = (state, pile[len(descent)])
    ends = [move_ends(machine, set(marked), made, move) for move in way + ring]
    if None in ends:
        return False
    for before, behind, _ in ends:
        if before != head:
            return False
        head = behind
    turn = ends[len(way):]
    return turn[0][0] == turn[-1][1] and any(mark for _, _, mark in turn)


def is_closed_table(machine, marked, table):
    """Point 33."""
    known = set(table)
    begins = {}
    for state, letter, goal, flag in table:
        if not (0 <= state < machine.states and 0 <= letter < machine.letters and 0 <= goal < machine.states):
            return False
        if type(flag) is not bool:
            return False
        begins.setdefault((state, letter), set()).add((goal, flag))
    for index, step in enumerate(machine.steps):
        ends = {(step.goal, index in marked)}
        for letter in step.laid:
            ends = {(goal, mark or flag) for node, mark in ends for goal, flag in begins.get((node, letter), ())}
        if any((step.state, step.letter, goal, mark) not in known for goal, mark in ends):
            return False
    return True


def head_edges(machine, marked, table):
    """Point 33: triples of two heads and whether the edge is marked."""
    found = set()
    for index, step in enumerate(machine.steps):
        mark = index in marked
        if step.laid:
            found.add(((step.state, step.letter), (step.goal, step.laid[0]), mark))
        if len(step.laid) == 2:
            for state, letter, goal, flag in table:
                if (state, letter) == (step.goal, step.laid[0]):
                    found.add(((step.state, step.letter), (goal, step.laid[1]), mark or flag))
    return found


def is_not(machine, marked, configuration, paper):
    """Point 34."""
    kind, table, ranks = paper
    marked = set(marked)
    heads = [head for head, _ in ranks]
    if kind != "not" or not is_closed_table(machine, marked, table):
        return False
    if any(a >= b for a, b in zip(heads, heads[1:])) or any(number < 0 for _, number in ranks):
        return False
    if any(not (0 <= state < machine.states and 0 <= letter < machine.letters) for state, letter in heads):
        return False
    known = dict(ranks)
    state, pile = configuration
    states = {state}
    for letter in pile:
        if any((before, letter) not in known for before in states):
            return False
        states = {goal for before, read, goal, _ in table if read == letter and before in states}
    for before, behind, mark in head_edges(machine, marked, table):
        if before in known and (behind not in known or known[behind] > known[before] - (1 if mark else 0)):
            return False
    return True


def is_endless(machine, marked, configuration, answer):
    """Point 35: whether verdict and paper fit together and are right."""
    verdict, paper = answer
    if not all_tuples(answer) or type(verdict) is not bool or paper[0] != ("ever" if verdict else "not"):
        return False
    return (is_ever if verdict else is_not)(machine, marked, configuration, paper)
