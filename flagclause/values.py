"""Values: what the values of options are, and the texts that represent them."""

from flagclause.errors import InvalidValue
from flagclause.grammar import is_number, is_value_kind, kinds_of
from flagclause.lexer import is_token

DIGITS = "0123456789"
MOST_DIGITS = 4


def parse_value(kind, text):
    """Return the value that a text represents."""
    # Every text that represents a value is also a token.
    if not is_value_kind(kind) or not is_token(text):
        raise InvalidValue()
    value = represented_value(kind, text)
    if value is None:
        raise InvalidValue()
    return value


def format_value(kind, value):
    """Return the text of a value."""
    if not is_value_kind(kind) or not is_value(kind, value):
        raise InvalidValue()
    return str(value)


def shorten_value(kind, value):
    """Return the shortest text of a value."""
    text = format_value(kind, value)
    if kind[0] == "choice":
        return shortest_beginning(text, kind[1])
    return text


def is_value(kind, value):
    """Return whether something is a value of an option of a valid kind."""
    if kind is None:
        return value is True
    if kind[0] == "int":
        return is_number(value, kind[1], kind[2])
    if kind[0] == "choice":
        return value in kind[1]
    return is_token(value)


def is_assignment(grammar, name, value):
    """Return whether something is the name of an option, and something else a value of it."""
    kinds = kinds_of(grammar[0])
    return isinstance(name, str) and name in kinds and is_value(kinds[name], value)


def represented_value(kind, text):
    """Return the value that a token represents for a valid kind with values, or None."""
    if kind[0] == "int":
        number = parse_integer(text)
        return number if is_number(number, kind[1], kind[2]) else None
    if kind[0] == "choice":
        words = matching_words(text, kind[1])
        return words[0] if len(words) == 1 else None
    return text


def parse_integer(text):
    """Return the integer of at most four digits that a text represents, or None."""
    digits = text.removeprefix("-")
    if not 1 <= len(digits) <= MOST_DIGITS or not all(digit in DIGITS for digit in digits):
        return None
    if digits[0] == "0" and text != "0":
        return None
    return int(text)


def matching_words(text, words):
    """Return the list of the words that a text may represent: itself, or those that it begins."""
    if text in words:
        return [text]
    return [word for word in words if text != "" and word.startswith(text)]


def shortest_beginning(word, words):
    """Return the shortest text that represents one of these words and no other one."""
    for size in range(1, len(word)):
        if matching_words(word[:size], words) == [word]:
            return word[:size]
    return word
