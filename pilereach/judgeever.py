"""The judge of papers on endless runs."""

from pilereach.bundles import nodes_of
from pilereach.offrows import OffRows
from pilereach.offtable import OffTable
from pilereach.ranges import is_below


def takes_endless(machine, marked, configuration, verdict, paper):
    """Tell whether the paper proves that an endless run passes for ever, or that none does."""
    marks = {index: True for index in marked}
    if paper[0] == "ever":
        return verdict and _takes_ring(machine, marks, configuration, paper)
    if paper[0] == "not":
        return not verdict and _takes_ranks(machine, marks, configuration, paper)
    return False


def _takes_ring(machine, marks, configuration, paper):
    """Tell whether the paper tells a ring with a mark, and the way to it."""
    _, rows, descent, way, ring = paper
    state, pile = configuration
    if len(descent) >= len(pile):
        return False
    off_rows = OffRows(machine, marks, rows)
    if not off_rows.are_right:
        return False
    below = off_rows.take_off(state, pile[:len(descent)], descent)
    if below is None:
        return False
    begin = off_rows.follow_moves((below[0], pile[len(descent)]), way)
    if begin is None:
        return False
    # The head must come again, and one of the ring's own moves be marked: so
    # an empty ring is none.
    return off_rows.follow_moves(begin[0], ring) == (begin[0], True)


def _takes_ranks(machine, marks, configuration, paper):
    """Tell whether the paper tells ranks that fall at each marked edge."""
    _, table, ranks = paper
    off_table = OffTable(machine, marks, table)
    if not off_table.is_closed() or not _are_ranks(machine, ranks):
        return False
    known = {head: number for head, number in ranks}
    if not _have_heads(off_table, configuration, known):
        return False
    for index, step in enumerate(machine.steps):
        rank = known.get((step.state, step.letter))
        if rank is not None:
            for head, mark in off_table.head_edges(index):
                # Whole numbers: less means at least 1 less.
                if head not in known or known[head] > rank - int(mark):
                    return False
    return True


def _are_ranks(machine, ranks):
    """Tell whether the heads are the machine's and ascend, and no number is negative."""
    for index, (head, number) in enumerate(ranks):
        state, letter = head
        if not is_below(state, machine.states) or not is_below(letter, machine.letters) or number < 0:
            return False
        if index > 0 and ranks[index - 1][0] >= head:
            return False
    return True


def _have_heads(off_table, configuration, known):
    """Tell whether the heads of all states before letters of the pile are known."""
    state, pile = configuration
    states = 1 << state
    for letter in pile:
        if not all([(before, letter) in known for before in nodes_of(states)]):
            return False
        states = off_table.states_behind(states, letter)
    return True
