"""Which letters runs read, from which node to which one, and by what marks.

An entry is a tuple (node, letter, goal, flag). Either it is an edge of a plain
net, with the flag False; or node is a state, and a run from it with this
letter alone on the pile leads to a state and a pile that lead to the goal, by
a marked step if the flag is True, and by none if it is False. Where there are
no edges, the run takes the letter off and ends in the goal.
"""

from pilereach.bundles import bundle_of, nodes_of
from pilereach.laying import Laying


class Entries:
    """Finds all entries when it is made.

    The row of an entry is a pair (step, parts): the first step of a run, None
    for an edge, and the places of the earlier entries that read what the step
    lays. A slot is the number 2 * goal + flag: many slots of one head are gone
    on from at once, as a bundle.
    """

    def __init__(self, machine, marks, edges):
        self.entries = []
        self.rows = []
        # For each head a dict: for each slot the place of the entry.
        self.places = {}
        self._steps = machine.steps
        self._marks = marks
        self._laying = Laying(machine)
        self._unmarked = bundle_of([2 * node for node in range(machine.states)] + [2 * edge[2] for edge in edges])
        # Bundles of slots: all of a head, those from which nothing went on
        # yet, those from which it did; and all of a word.
        self._all = {}
        self._fresh = {}
        self._passed = {}
        self._joined = {}
        self._heads = []
        # For each word and slot the parts; for each head the words whose
        # second letter it is, with the flag and place of their first letters.
        self._parts = {}
        self._waiting = {}
        for node, letter, goal in edges:
            self._enter((node, letter), [(2 * goal, ())], None)
        for index in self._laying.emptying:
            step = self._steps[index]
            self._enter((step.state, step.letter), [(2 * step.goal + int(index in marks), ())], index)
        at = 0
        while at < len(self._heads):
            self._go_on(self._heads[at])
            at += 1

    def at_head(self, head):
        """The entries of a head, as triples (goal, flag, place)."""
        places = list(self.places.get(head, {}).values())
        return [(self.entries[place][2], self.entries[place][3], place) for place in places]

    def _enter(self, head, rows, index):
        """Make new entries of a head: rows has their slots and parts."""
        places = self.places.setdefault(head, {})
        for slot, parts in rows:
            if slot not in places:
                places[slot] = len(self.rows)
                self.entries.append((head[0], head[1], slot // 2, slot & 1 == 1))
                self.rows.append((index, parts))
                self._all[head] = self._all.get(head, 0) | 1 << slot
                if head not in self._fresh:
                    self._fresh[head] = 0
                    self._heads.append(head)
                self._fresh[head] |= 1 << slot

    def _enter_step(self, index, slots, parts):
        """Make the entries of a step whose letters are read to these slots."""
        step = self._steps[index]
        head = (step.state, step.letter)
        pairs = self._after(slots, index in self._marks, self._all.get(head, 0))
        self._enter(head, [(slot, parts[origin]) for slot, origin in pairs], index)

    def _after(self, slots, mark, known):
        """What slots become behind something marked, without what is known.

        The pairs have a slot and the one that it comes from.
        """
        if not mark:
            return [(slot, slot) for slot in nodes_of(slots & ~known)]
        unmarked = slots & self._unmarked
        marked = unmarked << 1 | slots & ~self._unmarked
        return [(slot, slot if slots >> slot & 1 else slot - 1) for slot in nodes_of(marked & ~known)]

    def _go_on(self, head):
        """Put the fresh entries of a head into all that lays its letter."""
        slots = self._fresh.pop(head)
        self._passed[head] = self._passed.get(head, 0) | slots
        places = self.places[head]
        if head in self._laying.by_head:
            parts = {slot: (places[slot],) for slot in nodes_of(slots)}
            for index in self._laying.by_head[head]:
                self._enter_step(index, slots, parts)
        for word in self._laying.starting.get(head, ()):
            for slot in nodes_of(slots):
                second = (slot // 2, word[2])
                row = (word, slot & 1 == 1, places[slot])
                self._waiting.setdefault(second, []).append(row)
                self._join(row, second, self._passed.get(second, 0))
        for row in self._waiting.get(head, ()):
            self._join(row, head, slots)

    def _join(self, row, second, slots):
        """Read a word's second letter to these slots, behind its first one."""
        word, flag, place = row
        known = self._joined.get(word, 0)
        pairs = self._after(slots, flag, known)
        if pairs:
            places = self.places[second]
            parts = self._parts.setdefault(word, {})
            for slot, origin in pairs:
                parts[slot] = (place, places[origin])
            fresh = bundle_of([slot for slot, _ in pairs])
            self._joined[word] = known | fresh
            for index in self._laying.by_word[word]:
                self._enter_step(index, fresh, parts)
