"""Programs, read from texts."""

from pilereach.cursor import Cursor
from pilereach.errors import InvalidText
from pilereach.formulas import Formula
from pilereach.names import Names, Scope
from pilereach.program import Program


def read_program(text):
    """The program of a text."""
    return Reader(text).program()


class Reader:
    """Reads a text from the left, so that the first fault is met first."""

    def __init__(self, text):
        self._cursor = Cursor(text)
        self._globals = Names()
        self._procedures = Names()
        # A call may name a procedure that follows.
        self._numbers = {}
        for name in self._cursor.names_behind("proc"):
            self._numbers.setdefault(name, len(self._numbers))
        # Where the first procedure is called that does not exist.
        self._lost_call = None

    def program(self):
        """Read the whole text."""
        self._globals.declare_variables(self._cursor)
        procedures = [self._procedure()]
        while self._cursor.kind() != "end":
            procedures.append(self._procedure())
        if self._lost_call is not None:
            raise InvalidText(self._lost_call)
        return Program(self._globals.many(), procedures)

    def _procedure(self):
        """Read a procedure: the number of its local variables and its body."""
        self._cursor.need("proc")
        self._procedures.declare(self._cursor)
        self._cursor.need("{")
        own = Names()
        own.declare_variables(self._cursor)
        return own.many(), self._body(Scope(self._globals, own))

    def _body(self, scope):
        """Read statements up to the bracket that closes the body of a procedure."""
        # The bodies that are open, and the statements whose bodies they are,
        # as far as these are known; the outermost body is the procedure's.
        bodies = [[]]
        begun = []
        while True:
            if self._cursor.kind() in ("if", "either", "while", "repeat"):
                begun.append(self._beginning(scope))
                bodies.append([])
            elif not self._cursor.goes_on_with("}"):
                bodies[-1].append(self._plain_statement(scope))
            elif not begun:
                return tuple(bodies[0])
            else:
                statement = begun.pop() + (tuple(bodies.pop()),)
                if self._has_second_body(statement):
                    self._cursor.need("{")
                    begun.append(statement)
                    bodies.append([])
                else:
                    bodies[-1].append(_completed(statement))

    def _beginning(self, scope):
        """Read a statement with bodies up to the bracket that opens the first one."""
        kind = self._cursor.next_word()
        statement = (kind,)
        if kind in ("if", "while"):
            self._cursor.need("(")
            statement = (kind, Formula(self._cursor, scope).read())
            self._cursor.need(")")
        self._cursor.need("{")
        return statement

    def _has_second_body(self, statement):
        """Read the word ahead of the second body, if the statement has one still to come."""
        if statement[0] == "if" and len(statement) == 3:
            return self._cursor.goes_on_with("else")
        if statement[0] == "either" and len(statement) == 2:
            self._cursor.need("or")
            return True
        return False

    def _plain_statement(self, scope):
        """Read a statement that has no body."""
        if self._cursor.goes_on_with("return"):
            statement = ("return",)
        elif self._cursor.goes_on_with("pass"):
            statement = ("pass", int(self._cursor.need("number")))
        elif self._cursor.goes_on_with("call"):
            statement = ("call", self._called())
        else:
            variable = scope.variable(self._cursor)
            self._cursor.need("=")
            if self._cursor.goes_on_with("any"):
                statement = ("free", variable)
            else:
                statement = ("set", variable, Formula(self._cursor, scope).read())
        self._cursor.need(";")
        return statement

    def _called(self):
        """Read the name behind a call: the number of the procedure."""
        where = self._cursor.position()
        name = self._cursor.need("name")
        if name not in self._numbers and self._lost_call is None:
            self._lost_call = where
        # A number that is wrong is never used.
        return self._numbers.get(name, 0)


def _completed(statement):
    """The statement, with an empty second body for an if without else."""
    if statement[0] == "if" and len(statement) == 3:
        return statement + ((),)
    return statement
