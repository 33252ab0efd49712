"""Texts of expressions."""

from pilereach.errors import InvalidText

# How strongly operators bind; a bracket that is open holds back all of them.
STRENGTHS = {"(": 0, "or": 1, "and": 2, "==": 3, "not": 4}
OPERATORS = ("or", "and", "==")


class Formula:
    """One expression, while it is read token by token."""

    def __init__(self, cursor, scope):
        self._cursor = cursor
        self._scope = scope
        # Operands that are complete, and what waits for operands behind them:
        # operators and open brackets.
        self._operands = []
        self._waiting = []
        self._brackets = 0

    def read(self):
        """Read an expression up to a token that can't belong to it."""
        self._read_operand()
        while self._may_go_on():
            operator = self._cursor.next_word()
            # What binds as strongly is joined first: or and and associate to the left.
            self._join(STRENGTHS[operator])
            self._waiting.append(operator)
            self._read_operand()
        if self._brackets > 0:
            raise InvalidText(self._cursor.position())
        self._join(STRENGTHS["or"])
        return self._operands[0]

    def _may_go_on(self):
        """Tell whether an operator comes next that may stand here."""
        # There is no second == beside one: a == b == c is no comparison.
        compared = self._waiting[-1:] == ["=="]
        return self._cursor.kind() in OPERATORS and not (compared and self._cursor.kind() == "==")

    def _read_operand(self):
        """Read what stands before an operand, the operand, and the brackets behind it."""
        cursor = self._cursor
        while cursor.kind() in ("not", "("):
            self._waiting.append(cursor.next_word())
            if self._waiting[-1] == "(":
                self._brackets += 1
        self._operands.append(self._plain_operand())
        self._join(STRENGTHS["not"])
        while self._brackets > 0 and cursor.goes_on_with(")"):
            self._brackets -= 1
            self._join(STRENGTHS["or"])
            self._waiting.pop()
            self._join(STRENGTHS["not"])

    def _plain_operand(self):
        if self._cursor.goes_on_with("true"):
            return "truth", True
        if self._cursor.goes_on_with("false"):
            return "truth", False
        return "of", self._scope.variable(self._cursor)

    def _join(self, least):
        """Join operands while what waits last binds at least so strongly."""
        while self._waiting and STRENGTHS[self._waiting[-1]] >= least:
            operator = self._waiting.pop()
            right = self._operands.pop()
            if operator == "not":
                self._operands.append(("not", right))
            else:
                kind = "same" if operator == "==" else operator
                self._operands.append((kind, self._operands.pop(), right))
