"""Items written as texts, and read back."""

from versiontables.errors import InvalidText, TornText

MOST_LEVELS = 12
MOST_DIGITS = 60
MOST_LENGTH_DIGITS = 6


def encode(item):
    """Return the written item."""
    if item is None:
        return "n"
    if isinstance(item, int):
        return f"i{item};"
    if isinstance(item, str):
        return f"t{len(item)}:{item}"
    return "(" + "".join([encode(part) for part in item]) + ")"


def decode_prefix(text, index):
    """Read one item from the index on; return it and the index behind it."""
    return _read_item(text, index, 0)


def decode(text):
    """Return the item that the whole text writes."""
    try:
        item, end = decode_prefix(text, 0)
    except TornText:
        raise InvalidText("the text ends before its item does") from None
    if end < len(text):
        raise InvalidText(f"the text goes on behind its item, at {end}")
    return item


def _read_item(text, index, level):
    sign = _sign_at(text, index)
    if sign == "n":
        return None, index + 1
    if sign == "i":
        return _read_integer(text, index + 1)
    if sign == "t":
        return _read_text(text, index + 1)
    if sign == "(" and level < MOST_LEVELS:
        return _read_tuple(text, index + 1, level + 1)
    raise InvalidText(f"no item goes on with the character at {index}")


def _read_integer(text, index):
    first = index
    if _sign_at(text, index) == "-":
        first = index + 1
        if _sign_at(text, first) == "0":
            raise InvalidText(f"there is a zero behind the minus sign, at {first}")
    end = _end_of_digits(text, first, MOST_DIGITS, ";")
    return int(text[index:end]), end + 1


def _read_text(text, index):
    end = _end_of_digits(text, index, MOST_LENGTH_DIGITS, ":")
    start = end + 1
    stop = start + int(text[index:end])
    if stop > len(text):
        raise TornText("the text ends within a written text")
    return text[start:stop], stop


def _read_tuple(text, index, level):
    parts = []
    while _sign_at(text, index) != ")":
        part, index = _read_item(text, index, level)
        parts.append(part)
    return tuple(parts), index + 1


def _end_of_digits(text, first, most, closing):
    """Return the index of the closing sign behind a number that begins at the index `first`."""
    index = first
    sign = _sign_at(text, index)
    while "0" <= sign <= "9":
        count = index - first
        if count == most or (count == 1 and text[first] == "0"):
            raise InvalidText(f"there is a digit too many at {index}")
        index += 1
        sign = _sign_at(text, index)
    if index == first or sign != closing:
        raise InvalidText(f"no number goes on with the character at {index}")
    return index


def _sign_at(text, index):
    if index == len(text):
        raise TornText("the text ends before its item does")
    return text[index]
