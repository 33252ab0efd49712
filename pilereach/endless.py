"""Endless runs that take marked steps again and again."""

from pilereach.entries import Entries
from pilereach.heads import Heads
from pilereach.way import needed_rows


def endless(machine, marked, configuration):
    """Tell whether some endless run passes for ever, with a paper of it."""
    marks = {index: True for index in marked}
    taking = Entries(machine, marks, [])
    layers = _layers(taking, configuration)
    places = _first_places(configuration[1], layers)
    heads = Heads(machine, marks, taking, list(places))
    numbers = heads.groups()
    turn = _marked_turn(heads, numbers)
    if turn is None:
        ranks = tuple([(head, numbers[head]) for head in sorted(numbers)])
        return False, ("not", tuple(sorted(taking.entries)), ranks)
    head, goal, move = turn
    begin, way = heads.path(list(places), head)
    _, back = heads.path([goal], head)
    descent = _descent(layers, places[begin], begin[0])
    return True, _ever_paper(taking, descent, way, [move] + back)


def _layers(taking, configuration):
    """The states before each letter of the pile, and those behind the last.

    Each one has the state before it and the place of the entry that leads
    from there to it; the first one has None.
    """
    state, pile = configuration
    layers = [{state: None}]
    for letter in pile:
        after = {}
        for before in layers[-1]:
            for goal, _, place in taking.at_head((before, letter)):
                if goal not in after:
                    after[goal] = (before, place)
        layers.append(after)
    return layers


def _first_places(pile, layers):
    """The heads of all states before letters, each with its first place."""
    places = {}
    for index, letter in enumerate(pile):
        for state in layers[index]:
            places.setdefault((state, letter), index)
    return places


def _marked_turn(heads, numbers):
    """A marked move within a group, between its two heads, or None."""
    for head, moves in heads.moves.items():
        for goal, flag, move in moves:
            if flag and numbers[head] == numbers[goal]:
                return head, goal, move
    return None


def _descent(layers, index, state):
    """The places of the entries that lead down to a state before a letter."""
    places = []
    while index > 0:
        state, place = layers[index][state]
        places.append(place)
        index -= 1
    return places[::-1]


def _ever_paper(taking, descent, way, ring):
    """The paper, with those of the rows alone that it needs."""
    parts = [part for _, part in way + ring if part is not None]
    kept = needed_rows(taking.rows, descent + parts)
    numbers = {place: number for number, place in enumerate(kept)}
    rows = [(taking.rows[place][0], tuple([numbers[part] for part in taking.rows[place][1]])) for place in kept]
    return (
        "ever",
        tuple(rows),
        tuple([numbers[place] for place in descent]),
        _renumbered(way, numbers),
        _renumbered(ring, numbers),
    )


def _renumbered(moves, numbers):
    return tuple([(step, None if part is None else numbers[part]) for step, part in moves])
