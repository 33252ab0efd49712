"""A place among the tokens of a text."""

from pilereach.errors import InvalidText
from pilereach.tokens import tokens_of


class Cursor:
    """Goes through the tokens of a text; every fault is told where it stands."""

    def __init__(self, text):
        self._tokens = tokens_of(text)
        self._at = 0

    def kind(self):
        """The kind of the next token."""
        return self._tokens[self._at][0]

    def position(self):
        """The index of the first character of the next token."""
        return self._tokens[self._at][2]

    def next_word(self):
        """Pass over the next token; its word."""
        self._at += 1
        return self._tokens[self._at - 1][1]

    def need(self, kind):
        """Pass over the next token, which must have this kind; its word."""
        if self.kind() != kind:
            raise InvalidText(self.position())
        return self.next_word()

    def goes_on_with(self, kind):
        """Pass over the next token if it has this kind; tell whether it has."""
        if self.kind() != kind:
            return False
        self._at += 1
        return True

    def names_behind(self, kind):
        """All names of the text that stand behind a token of this kind, in order."""
        names = []
        for index in range(1, len(self._tokens)):
            if self._tokens[index - 1][0] == kind and self._tokens[index][0] == "name":
                names.append(self._tokens[index][1])
        return names
