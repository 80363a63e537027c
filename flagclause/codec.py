"""Codec: grammars and arguments as bytes."""

from flagclause.errors import DecodeError, InvalidCount
from flagclause.grammar import (
    CLAUSE_WORDS, LETTERS, LOWEST_BOUND, MOST_CHOICES, MOST_CLAUSES, MOST_LETTERS, MOST_OPTIONS, MOST_POSITIONALS,
    NAME_CHARACTERS, check_grammar, is_number, names_of,
)
from flagclause.lexer import LINE_CHARACTERS, MOST_CHARACTERS
from flagclause.lines import check_arguments

GRAMMAR_MARK = 71
ARGUMENTS_MARK = 76
# The kinds of options, in the order of their numbers.
KIND_WORDS = (None, "int", "choice", "word")

HIGHEST_BYTE = 255
# The two bytes of the integer 9999.
HIGHEST_FIRST_BYTE = 78
HIGHEST_SECOND_BYTE = 30


def pack_bytes(values):
    """Return the bytes of a list of integers from 0 to 255."""
    if not isinstance(values, list) or not all(is_number(value, 0, HIGHEST_BYTE) for value in values):
        raise InvalidCount()
    return bytes(values)


def unpack_bytes(data):
    """Return the list of the integers of bytes."""
    return list(data)


def encode_grammar(grammar):
    """Return the bytes of a grammar."""
    check_grammar(grammar)
    options, positionals, clauses = grammar
    names = names_of(options)
    values = [GRAMMAR_MARK, len(options)]
    for option in options:
        values.extend(values_of_option(option))
    values.extend([*positionals, len(clauses)])
    for word, first, second in clauses:
        values.extend([CLAUSE_WORDS.index(word), names.index(first), names.index(second)])
    return pack_bytes(values + [checksum(values)])


def decode_grammar(data):
    """Return the grammar of bytes."""
    reader = ByteReader(data)
    reader.take(GRAMMAR_MARK, GRAMMAR_MARK)
    options = [take_option(reader) for _ in range(reader.take(1, MOST_OPTIONS))]
    positionals = (reader.take(0, MOST_POSITIONALS), reader.take(0, MOST_POSITIONALS))
    names = names_of(options)
    clauses = [take_clause(reader, names) for _ in range(reader.take(0, MOST_CLAUSES))]
    reader.take_end()
    grammar = (tuple(options), positionals, tuple(clauses))
    check_grammar(grammar)
    return grammar


def encode_arguments(grammar, assignments, words):
    """Return the bytes of options and positional words."""
    check_arguments(grammar, assignments, words)
    values = [ARGUMENTS_MARK, len(assignments)]
    for index, (name, _, kind) in enumerate(grammar[0]):
        if name in assignments:
            values.append(index)
            values.extend(values_of_value(kind, assignments[name]))
    values.append(len(words))
    for word in words:
        values.extend(values_of_text(word, LINE_CHARACTERS))
    return pack_bytes(values + [checksum(values)])


def decode_arguments(grammar, data):
    """Return the options and positional words of bytes."""
    check_grammar(grammar)
    reader = ByteReader(data)
    reader.take(ARGUMENTS_MARK, ARGUMENTS_MARK)
    assignments = take_assignments(reader, grammar[0])
    minimum, maximum = grammar[1]
    count = reader.take(minimum, maximum)
    words = [reader.take_text(LINE_CHARACTERS, 0, MOST_CHARACTERS) for _ in range(count)]
    reader.take_end()
    return (assignments, words)


class ByteReader:
    """Bytes, which are taken one after the other."""

    def __init__(self, data):
        self.data = data
        self.offset = 0

    def take(self, low, high):
        """Return the next byte, which must be in a range."""
        if self.offset == len(self.data):
            raise DecodeError(self.offset)
        value = self.data[self.offset]
        if not low <= value <= high:
            raise DecodeError(self.offset)
        self.offset += 1
        return value

    def take_integer(self):
        """Return the next integer of two bytes."""
        first = self.take(0, HIGHEST_FIRST_BYTE)
        # A second byte can make the integer too high only behind the highest first one.
        second = self.take(0, HIGHEST_SECOND_BYTE if first == HIGHEST_FIRST_BYTE else HIGHEST_BYTE)
        return first * 256 + second + LOWEST_BOUND

    def take_text(self, alphabet, least, most):
        """Return the next string, which must have a number of characters in a range."""
        count = self.take(least, most)
        return "".join([alphabet[self.take(0, len(alphabet) - 1)] for _ in range(count)])

    def take_end(self):
        """Take the checksum, which must be the last byte."""
        expected = checksum(list(self.data[:self.offset]))
        self.take(expected, expected)
        if self.offset < len(self.data):
            raise DecodeError(self.offset)


def checksum(values):
    """Return the last byte behind all others."""
    return sum(values) % 251


def values_of_text(text, alphabet):
    """Return the list of the integers that encode a string."""
    return [len(text)] + [alphabet.index(character) for character in text]


def values_of_integer(number):
    """Return the list of the integers that encode an integer."""
    return list(divmod(number - LOWEST_BOUND, 256))


def values_of_option(option):
    """Return the list of the integers that encode an option."""
    name, short_name, kind = option
    values = values_of_text(name, NAME_CHARACTERS) + values_of_text(short_name, LETTERS)
    if kind is None:
        return values + [0]
    values.append(KIND_WORDS.index(kind[0]))
    if kind[0] == "int":
        return values + values_of_integer(kind[1]) + values_of_integer(kind[2])
    if kind[0] == "choice":
        values.append(len(kind[1]))
        for word in kind[1]:
            values.extend(values_of_text(word, LETTERS))
    return values


def values_of_value(kind, value):
    """Return the list of the integers that encode the value of an option."""
    if kind is None:
        return []
    if kind[0] == "int":
        return values_of_integer(value)
    if kind[0] == "choice":
        return [kind[1].index(value)]
    return values_of_text(value, LINE_CHARACTERS)


def take_option(reader):
    """Return the next option."""
    name = reader.take_text(NAME_CHARACTERS, 1, MOST_LETTERS)
    short_name = reader.take_text(LETTERS, 0, 1)
    return (name, short_name, take_kind(reader))


def take_kind(reader):
    """Return the next kind of an option."""
    word = KIND_WORDS[reader.take(0, len(KIND_WORDS) - 1)]
    if word is None:
        return None
    if word == "int":
        return ("int", reader.take_integer(), reader.take_integer())
    if word == "choice":
        count = reader.take(1, MOST_CHOICES)
        return ("choice", tuple([reader.take_text(LETTERS, 1, MOST_LETTERS) for _ in range(count)]))
    return ("word",)


def take_clause(reader, names):
    """Return the next clause about options with these names."""
    word = CLAUSE_WORDS[reader.take(0, len(CLAUSE_WORDS) - 1)]
    first = names[reader.take(0, len(names) - 1)]
    return (word, first, names[reader.take(0, len(names) - 1)])


def take_assignments(reader, options):
    """Return the dict of the next options, which have the order of the grammar, and their values."""
    assignments = {}
    lowest = 0
    for _ in range(reader.take(0, len(options))):
        index = reader.take(lowest, len(options) - 1)
        name, kind = options[index][0], options[index][2]
        assignments[name] = take_value(reader, kind)
        lowest = index + 1
    return assignments


def take_value(reader, kind):
    """Return the next value of an option of a kind."""
    if kind is None:
        return True
    if kind[0] == "int":
        start = reader.offset
        number = reader.take_integer()
        if not kind[1] <= number <= kind[2]:
            raise DecodeError(start)
        return number
    if kind[0] == "choice":
        return kind[1][reader.take(0, len(kind[1]) - 1)]
    return reader.take_text(LINE_CHARACTERS, 0, MOST_CHARACTERS)
