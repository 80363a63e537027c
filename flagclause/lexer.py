"""Lexer: lines, the tokens that they consist of, and the shortest way to write these."""

from flagclause.errors import InvalidToken, LineError

# The characters that a line and its tokens may contain, in the order of their codes.
LINE_CHARACTERS = " !\"#$&'()*+,-./0123456789:;<=>?@ABCDEFGHIJKLMNOPQRSTUVWXYZ[\\]^_`abcdefghijklmnopqrstuvwxyz{|}~"
# The characters that do not stand for themselves outside of quotation marks.
SPECIAL_CHARACTERS = " \"'\\"

MOST_CHARACTERS = 200


def split_line(line):
    """Return the list of the tokens of a line."""
    check_line(line)
    tokens = []
    index = index_behind_blanks(line, 0)
    while index < len(line):
        token, index = read_token(line, index)
        tokens.append(token)
        index = index_behind_blanks(line, index)
    return tokens


def quote(token):
    """Return the shortest way to write a token, and the smallest one of several."""
    check_tokens([token])
    if token == "":
        return '""'
    # From the end of the token on, these write its last characters: outside of
    # quotation marks, and within single and double ones that are open already.
    outside, single, double = "", "'", '"'
    for character in reversed(token):
        escaped = "\\" + character
        doubled = (escaped if character in "\"\\" else character) + double
        ways = [escaped + outside, '"' + doubled]
        if character not in SPECIAL_CHARACTERS:
            ways.append(character + outside)
        if character == "'":
            outside = shortest_text(ways)
            single = "'" + outside
        else:
            outside = shortest_text([*ways, "'" + character + single])
            single = shortest_text(["'" + outside, character + single])
        double = shortest_text(['"' + outside, doubled])
    return outside


def join_line(tokens):
    """Return the shortest line with these tokens."""
    check_tokens(tokens)
    line = " ".join([quote(token) for token in tokens])
    if len(line) > MOST_CHARACTERS:
        raise LineError(MOST_CHARACTERS)
    return line


def check_line(line):
    """Raise LineError with the index of the first character that a line cannot have there."""
    if not isinstance(line, str):
        raise LineError(0)
    for index, character in enumerate(line):
        if index >= MOST_CHARACTERS or character not in LINE_CHARACTERS:
            raise LineError(index)


def check_tokens(tokens):
    """Raise InvalidToken unless something is a list or tuple of tokens."""
    if not isinstance(tokens, (list, tuple)):
        raise InvalidToken(0)
    for index, token in enumerate(tokens):
        if not is_token(token):
            raise InvalidToken(index)


def is_token(token):
    """Return whether something can be a token."""
    if not isinstance(token, str) or len(token) > MOST_CHARACTERS:
        return False
    return all(character in LINE_CHARACTERS for character in token)


def index_behind_blanks(line, start):
    """Return the index of the first character from a start on that is not a blank."""
    index = start
    while index < len(line) and line[index] == " ":
        index += 1
    return index


def read_token(line, start):
    """Return the token that begins at an index, and the index behind it."""
    parts = []
    index = start
    while index < len(line) and line[index] != " ":
        part, index = read_part(line, index)
        parts.append(part)
    return "".join(parts), index


def read_part(line, start):
    """Return what the part of a token at an index stands for, and the index behind it."""
    character = line[start]
    if character in "\"'":
        return read_quoted(line, start)
    if character != "\\":
        return character, start + 1
    if start + 1 == len(line):
        raise LineError(start)
    return line[start + 1], start + 2


def read_quoted(line, start):
    """Return the text in the quotation marks that open at an index, and the index behind them."""
    mark = line[start]
    characters = []
    index = start + 1
    while index < len(line) and line[index] != mark:
        if mark == '"' and line[index] == "\\":
            index += 1
        # There is no character behind a backslash at the end of the line.
        characters.append(line[index:index + 1])
        index += 1
    if index >= len(line):
        raise LineError(start)
    return "".join(characters), index + 1


def shortest_text(texts):
    """Return the shortest one of several texts, and the smallest one of several such."""
    return min(texts, key=lambda text: (len(text), text))
