"""The tokens of a query or of an expression."""

from versiontables.errors import SyntaxFault

MOST_LETTERS = 12
MOST_DIGITS = 18
MOST_CHARACTERS = 60
LONG_SIGNS = ("<>", "<=", ">=")
SHORT_SIGNS = "(),|+-*=<>"
QUOTE = "'"


def split_tokens(text):
    """Return the list of the tokens as triples (sort, value, column)."""
    tokens = []
    index = 0
    while index < len(text):
        if text[index] == " ":
            index += 1
        else:
            sort, value, end = _read_token(text, index)
            tokens.append((sort, value, index + 1))
            index = end
    return tokens


def _read_token(text, index):
    """Return the sort and the value of the token that begins at the index, and the index behind it."""
    letter = text[index]
    if "a" <= letter <= "z":
        end = _end_of_run(text, index, "a", "z", MOST_LETTERS)
        return "word", text[index:end], end
    if "0" <= letter <= "9":
        end = _end_of_run(text, index, "0", "9", MOST_DIGITS)
        return "number", int(text[index:end]), end
    if letter == QUOTE:
        return _read_string(text, index + 1)
    if text[index:index + 2] in LONG_SIGNS:
        return "sign", text[index:index + 2], index + 2
    if letter in SHORT_SIGNS:
        return "sign", letter, index + 1
    raise SyntaxFault(index + 1)


def _end_of_run(text, start, least, greatest, most):
    """Return the index behind the characters from the least to the greatest that follow one another."""
    end = start
    while end < len(text) and least <= text[end] <= greatest:
        if end - start == most:
            raise SyntaxFault(end + 1)
        end += 1
    return end


def _read_string(text, start):
    """Read the string whose characters begin at the index `start`."""
    end = start
    while end < len(text) and text[end] != QUOTE:
        if end - start == MOST_CHARACTERS:
            raise SyntaxFault(end + 1)
        end += 1
    if end == len(text):
        raise SyntaxFault(len(text) + 1)
    return "string", text[start:end], end + 1
