"""Programs: global variables, and procedures that may call themselves."""

from pilereach.errors import InvalidProgram
from pilereach.ranges import is_below
from pilereach.statements import all_statements, variables_of

PLACES = 1000


class Program:
    """The number of global variables; for each procedure that of its locals, and its body."""

    def __init__(self, global_count, procedures):
        if global_count < 0 or len(procedures) == 0:
            raise InvalidProgram(-1)
        self.global_count = global_count
        self.procedures = tuple([(count, body) for count, body in procedures])
        for index, (count, body) in enumerate(self.procedures):
            if not _is_right(global_count, len(self.procedures), count, body):
                raise InvalidProgram(index)

    def __eq__(self, other):
        return (
            isinstance(other, Program)
            and self.global_count == other.global_count
            and self.procedures == other.procedures
        )


def _is_right(global_count, many, count, body):
    """Tell whether a procedure names only what exists; many is the number of them."""
    if count < 0:
        return False
    for statement in all_statements(body):
        if statement[0] == "call" and not is_below(statement[1], many):
            return False
        if statement[0] == "pass" and not is_below(statement[1], PLACES):
            return False
        for scope, index in variables_of(statement):
            if not is_below(index, global_count if scope == "global" else count):
                return False
    return True
