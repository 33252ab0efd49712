"""The tokens of a text.

A token is a triple (kind, word, where): where is the index of its first
character. The kind of a reserved word or a sign is the word itself; other
kinds are "name", "number", "end" behind the last token, and "none" where the
text goes on with something that is no token.
"""

RESERVED = (
    "var", "proc", "call", "if", "else", "either", "or", "while", "repeat",
    "return", "pass", "any", "true", "false", "not", "and",
)
SIGNS = ("{", "}", "(", ")", ";", "=")
MOST_DIGITS = 3


def tokens_of(text):
    """The tokens of a text, up to its end or to the first that is none."""
    tokens = []
    at = _behind_gap(text, 0)
    while at < len(text):
        end = _end_of_token(text, at)
        word = text[at:end]
        kind = _kind_of(word)
        tokens.append((kind, word, at))
        if kind == "none":
            return tokens
        at = _behind_gap(text, end)
    tokens.append(("end", "", len(text)))
    return tokens


def _behind_gap(text, at):
    """The first index from this one on at which there is neither space nor newline."""
    while at < len(text) and text[at] in " \n":
        at += 1
    return at


def _end_of_token(text, at):
    """The index behind what begins here and belongs together."""
    if text[at:at + 2] == "==":
        return at + 2
    end = at + 1
    if _is_letter(text[at]):
        while end < len(text) and (_is_letter(text[end]) or _is_digit(text[end])):
            end += 1
    elif _is_digit(text[at]):
        while end < len(text) and _is_digit(text[end]):
            end += 1
    return end


def _kind_of(word):
    """The kind of a token with this word."""
    if word in RESERVED or word in SIGNS or word == "==":
        return word
    if _is_letter(word[0]):
        return "name"
    if _is_digit(word[0]) and len(word) <= MOST_DIGITS and (word[0] != "0" or len(word) == 1):
        return "number"
    return "none"


def _is_letter(sign):
    return "a" <= sign and sign <= "z"


def _is_digit(sign):
    return "0" <= sign and sign <= "9"
