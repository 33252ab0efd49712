"""Texts and their faults, worked out from the grammar rule by rule, and slowly.

Nothing here uses the package. A stack of symbols tells how a text may go on;
all stacks that are possible are kept side by side.
"""

import re

# Names have roles: what they stand for tells where they may be faulty.
RULES = {
    "program": ["var global ; program", "procedure procedures"],
    "procedures": ["", "procedure procedures"],
    "procedure": ["proc procedure-name { locals }"],
    "locals": ["var local ; locals", "statements"],
    "statements": ["", "statement statements"],
    "statement": [
        "variable = value ;",
        "call called ;",
        "return ;",
        "pass number ;",
        "if ( expression ) block rest",
        "either block or block",
        "while ( expression ) block",
        "repeat block",
    ],
    "rest": ["", "else block"],
    "value": ["any", "expression"],
    "block": ["{ statements }"],
    "expression": ["conjunction ors"],
    "ors": ["", "or conjunction ors"],
    "conjunction": ["comparison ands"],
    "ands": ["", "and comparison ands"],
    "comparison": ["unary same"],
    "same": ["", "== unary"],
    "unary": ["not unary", "true", "false", "variable", "( expression )"],
}
ROLES = ("global", "procedure-name", "local", "variable", "called")
RESERVED = "var proc call if else either or while repeat return pass any true false not and".split()


def tokens_of(text):
    """Triples (kind, word, where); the last one has the kind "end" or "none"."""
    at = 0
    while True:
        while text[at:at + 1] in (" ", "\n"):
            at += 1
        if at == len(text):
            yield "end", "", at
            return
        word = re.compile(r"[a-z][a-z0-9]*|[0-9]+|==|[{}();=]|.|\n|\t").match(text, at).group()
        if word in RESERVED or word in ("{", "}", "(", ")", ";", "=", "=="):
            kind = word
        elif word[0].isalpha() and re.fullmatch("[a-z][a-z0-9]*", word):
            kind = "name"
        elif re.fullmatch("0|[1-9][0-9]?[0-9]?", word):
            kind = "number"
        else:
            yield "none", word, at
            return
        yield kind, word, at
        at += len(word)


def tops(stacks):
    """The stacks with all rules applied until a token stands on top; () is the end."""
    found = []
    rows = list(stacks)
    while rows:
        stack = rows.pop()
        if stack and stack[0] in RULES:
            rows.extend(tuple(rule.split()) + stack[1:] for rule in RULES[stack[0]])
        else:
            found.append(stack)
    return found


def roles_of(text):
    """Tokens with their roles up to the first that is not possible, and where that one is, or None."""
    stacks = tops([("program",)])
    told = []
    for kind, word, where in tokens_of(text):
        if kind == "end":
            return told, None if () in stacks else where
        passed = [stack for stack in stacks if stack and (stack[0] == kind or kind == "name" and stack[0] in ROLES)]
        if not passed:
            return told, where
        roles = {stack[0] for stack in passed}
        if len(roles) != 1:
            raise AssertionError("the grammar leaves open what a token is")
        told.append((roles.pop(), word, where))
        stacks = tops(stack[1:] for stack in passed)
    raise AssertionError("a text has an end")


def fault_of(text):
    """Where the first fault of a text is, or None if there is none (point 49)."""
    told, impossible = roles_of(text)
    shared, own, procedures, calls = set(), set(), set(), []
    for role, word, where in told:
        if role == "proc":
            own = set()
        if role == "called":
            calls.append((word, where))
        if role == "variable" and word not in shared | own:
            return where
        names = {"global": shared, "local": own, "procedure-name": procedures}.get(role)
        if names is not None:
            if word in names:
                return where
            names.add(word)
    if impossible is not None:
        return impossible
    return next((where for word, where in calls if word not in procedures), None)
