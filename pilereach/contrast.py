"""The search for the first configuration that tells two nets apart."""

from pilereach.bundles import Bundles


class Contrast:
    """Goes through the piles in order, with a pair of bundles for each state.

    Bundles that can tell nothing new are joined into groups: once a pair is
    looked at, its two bundles are in one group, and a pair within a group is
    passed over. If a pile behind such a pair told the nets apart, the same
    pile behind one of the pairs that made the group would have done so, too,
    and these stand earlier in the order.
    """

    def __init__(self, a, b):
        self.states = a.states
        self.left = Bundles(a)
        self.right = Bundles(b)
        self.above = {}
        # One entry for each pair: the entry that it comes from, and the letter.
        self.trail = []

    def first_difference(self):
        """The first configuration that only one net accepts, or None."""
        rows = [(0, None, state, None, 1 << state, 1 << state) for state in range(self.states)]
        while rows:
            level = []
            rank = 0
            for place, row in enumerate(rows):
                if place > 0 and row[:2] != rows[place - 1][:2]:
                    rank += 1
                _, letter, state, origin, left, right = row
                if self.joins(left, right):
                    self.trail.append((origin, letter))
                    if self.left.has_end(left) != self.right.has_end(right):
                        return state, self.pile()
                    level.append((rank, state, len(self.trail) - 1, left, right))
            rows = self.rows_after(level)
        return None

    def rows_after(self, level):
        """The pairs one letter behind those of the level, in order.

        A row has the rank of the pile of its origin, the letter, the state,
        the entry of the origin in the trail, and both bundles.
        """
        rows = []
        for rank, state, entry, left, right in level:
            lefts = self.left.after(left)
            rights = self.right.after(right)
            for letter in sorted(set(list(lefts) + list(rights))):
                rows.append((rank, letter, state, entry, lefts.get(letter, 0), rights.get(letter, 0)))
        return sorted(rows)

    def joins(self, left, right):
        """Join the groups of a pair; tell whether they were two."""
        # Both nets number their nodes from 0: the last bit tells the net.
        first = self.group(left * 2)
        second = self.group(right * 2 + 1)
        self.above[first] = second
        return first != second

    def group(self, member):
        """The member that stands for the group of this one."""
        above = self.above.setdefault(member, member)
        while above != member:
            # Each second one is put higher up, so that later ways are short.
            self.above[member] = self.above[above]
            member = self.above[member]
            above = self.above[member]
        return member

    def pile(self):
        """The pile of the last pair in the trail."""
        letters = []
        entry = len(self.trail) - 1
        while entry is not None:
            origin, letter = self.trail[entry]
            if origin is not None:
                letters.append(letter)
            entry = origin
        return tuple(letters[::-1])
