"""The points of a program, and how they follow one another."""

from pilereach.statements import bodies_of


class Points:
    """For each point what stands there; the first four lists are in the points' order."""

    def __init__(self, program):
        # The statement, None at the end of a procedure.
        self.statements = []
        # How many local variables the procedure has.
        self.local_counts = []
        # The point that follows, None at an end, and the entries of the bodies.
        self.follows = []
        self.entries = []
        # For each procedure the frame with which it begins.
        self.first_frames = []
        for count, body in program.procedures:
            entry = self._add_procedure(count, body)
            self.first_frames.append((entry, (False,) * count))

    def _add_procedure(self, count, body):
        """Number the points of a procedure, and chain them; its entry."""
        top, rows = self._add_statements(count, body)
        end = self._add_point(count, None)
        entry = self._chain(top, end)
        # A statement stands before those in its bodies, so that its own
        # follower is known when theirs is asked for.
        for point, within in rows:
            goes_on = self.statements[point][0] in ("if", "either")
            behind = self.follows[point] if goes_on else point
            self.entries[point] = tuple([self._chain(points, behind) for points in within])
        return entry

    def _add_statements(self, count, body):
        """Give the statements of a body their points, also those in their own bodies.

        Returned are the points of the body itself, and for each statement its
        point and those of its bodies, in ascending order.
        """
        top = []
        rows = []
        # Statements that have no point yet, the next one last, each with the
        # list of the points of its body.
        stack = [(statement, top) for statement in body[::-1]]
        while stack:
            statement, points = stack.pop()
            points.append(self._add_point(count, statement))
            inner = bodies_of(statement)
            within = [[] for _ in inner]
            rows.append((points[-1], within))
            for index in reversed(range(len(inner))):
                stack.extend([(part, within[index]) for part in inner[index][::-1]])
        return top, rows

    def _add_point(self, count, statement):
        """Add a point that nothing follows yet; its number."""
        self.statements.append(statement)
        self.local_counts.append(count)
        self.follows.append(None)
        self.entries.append(())
        return len(self.statements) - 1

    def _chain(self, points, behind):
        """Let the points of a body follow one another, with this one behind; the entry."""
        for index in range(len(points)):
            self.follows[points[index]] = points[index + 1] if index + 1 < len(points) else behind
        return points[0] if points else behind
