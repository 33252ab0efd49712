"""The names that a text declares."""

from pilereach.errors import InvalidText


class Names:
    """The names of one kind in one place, numbered in their order."""

    def __init__(self):
        self._numbers = {}

    def declare(self, cursor):
        """Read a name that is not declared yet."""
        where = cursor.position()
        name = cursor.need("name")
        if name in self._numbers:
            raise InvalidText(where)
        self._numbers[name] = len(self._numbers)

    def declare_variables(self, cursor):
        """Read declarations of variables, as many as there are."""
        while cursor.goes_on_with("var"):
            self.declare(cursor)
            cursor.need(";")

    def number(self, name):
        """The number of a name, or None if it is not declared."""
        return self._numbers.get(name)

    def many(self):
        """How many names are declared."""
        return len(self._numbers)


class Scope:
    """The variables that may be named in a procedure."""

    def __init__(self, shared, own):
        self._shared = shared
        self._own = own

    def variable(self, cursor):
        """Read the name of a variable; a local one hides a global one."""
        where = cursor.position()
        name = cursor.need("name")
        if self._own.number(name) is not None:
            return "local", self._own.number(name)
        if self._shared.number(name) is not None:
            return "global", self._shared.number(name)
        raise InvalidText(where)
