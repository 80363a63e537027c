"""Lines: what their tokens say, which tokens can come next, and the shortest lines."""

from flagclause.analysis import is_met
from flagclause.completion import check_given, verdicts
from flagclause.errors import InvalidArguments, InvalidValue, ParseError, UnmetClause
from flagclause.grammar import LETTERS, check_grammar, kinds_of, names_of
from flagclause.lexer import MOST_CHARACTERS, check_tokens, is_token, quote
from flagclause.values import is_assignment, matching_words, parse_value, shorten_value, shortest_beginning

SEPARATOR = "--"


def read_prefix(grammar, tokens):
    """Return the options, positional words, pending option, and whether a separator was read."""
    check_grammar(grammar)
    check_tokens(tokens)
    reader = TokenReader(grammar)
    for index, token in enumerate(tokens):
        reader.read(index, token)
    return (reader.assignments, reader.words, reader.pending, reader.is_separated)


def parse_tokens(grammar, tokens):
    """Return the options and positional words of a whole line."""
    assignments, words, pending, _ = read_prefix(grammar, tokens)
    if pending is not None:
        raise ParseError(len(tokens), "missing")
    if len(words) < grammar[1][0]:
        raise ParseError(len(tokens), "positionals")
    given = list(assignments)
    check_given(grammar, given)
    for index, clause in enumerate(grammar[2]):
        if not is_met(clause, given):
            raise UnmetClause(index)
    return (assignments, words)


def suggest(grammar, tokens, start):
    """Return the ascending list of the tokens that can come next and begin with a text."""
    assignments, _, pending, is_separated = read_prefix(grammar, tokens)
    decided = verdicts(grammar, list(assignments))
    if pending is not None:
        candidates = choices_of(kinds_of(grammar[0])[pending])
    elif is_separated:
        candidates = []
    else:
        candidates = [
            f"--{name}" if kind is None else f"--{name}="
            for name, _, kind in grammar[0] if decided[name] in ("required", "possible")
        ]
    return sorted([token for token in candidates if token.startswith(start)])


def compact(grammar, assignments, words):
    """Return a shortest line with these options and positional words."""
    check_arguments(grammar, assignments, words)
    parts = option_parts(grammar, assignments)
    if any(is_like_option(word) for word in words):
        parts = parts + [SEPARATOR]
    return " ".join(parts + [quote(word) for word in words])


class TokenReader:
    """What the tokens of a line that were read so far say."""

    def __init__(self, grammar):
        self.kinds = kinds_of(grammar[0])
        self.names = {short_name: name for name, short_name, _ in grammar[0] if short_name != ""}
        self.most_words = grammar[1][1]
        self.assignments = {}
        self.words = []
        self.pending = None
        self.is_separated = False

    def read(self, index, token):
        """Read the token with an index."""
        if self.pending is not None:
            self.assign(index, self.pending, token)
            self.pending = None
        elif self.is_separated or not is_like_option(token):
            self.read_word(index, token)
        elif token == SEPARATOR:
            self.is_separated = True
        elif token.startswith("--"):
            self.read_long_option(index, token[2:])
        else:
            self.read_bundle(index, token[1:])

    def read_word(self, index, token):
        """Read a positional word."""
        if len(self.words) == self.most_words:
            raise ParseError(index, "positionals")
        self.words.append(token)

    def read_long_option(self, index, text):
        """Read a long option without its two hyphens."""
        beginning, sign, value_text = text.partition("=")
        matches = matching_words(beginning, list(self.kinds))
        if len(matches) == 0:
            raise ParseError(index, "unknown")
        if len(matches) > 1:
            raise ParseError(index, "ambiguous")
        name = matches[0]
        self.check_new(index, name)
        if sign == "":
            self.begin(name)
        else:
            # For an option without a value, no text is valid.
            self.assign(index, name, value_text)

    def read_bundle(self, index, text):
        """Read a bundle of short options without its hyphen."""
        for place, short_name in enumerate(text):
            if short_name not in self.names:
                raise ParseError(index, "unknown")
            name = self.names[short_name]
            self.check_new(index, name)
            rest = text[place + 1:]
            if self.kinds[name] is not None and rest != "":
                self.assign(index, name, rest)
                return
            self.begin(name)

    def check_new(self, index, name):
        """Raise ParseError if an option was given before."""
        if name in self.assignments:
            raise ParseError(index, "repeated")

    def begin(self, name):
        """Take an option; if it has a value, this comes with the next token."""
        if self.kinds[name] is None:
            self.assignments[name] = True
        else:
            self.pending = name

    def assign(self, index, name, text):
        """Take an option with the text of its value."""
        try:
            self.assignments[name] = parse_value(self.kinds[name], text)
        except InvalidValue:
            raise ParseError(index, "value") from None


def is_like_option(token):
    """Return whether a token is no positional word unless a separator stands ahead of it."""
    return token.startswith("--") or (len(token) > 1 and token[0] == "-" and token[1] in LETTERS)


def choices_of(kind):
    """Return the list of the words of a kind; only choices have some."""
    return list(kind[1]) if kind[0] == "choice" else []


def check_arguments(grammar, assignments, words):
    """Raise InvalidGrammar, or InvalidArguments unless these are options and positional words."""
    check_grammar(grammar)
    if not isinstance(assignments, dict):
        raise InvalidArguments("")
    for name, value in assignments.items():
        if not is_assignment(grammar, name, value):
            raise InvalidArguments(name)
    minimum, maximum = grammar[1]
    if not isinstance(words, list) or not minimum <= len(words) <= maximum:
        raise InvalidArguments("")
    if not all(is_token(word) for word in words):
        raise InvalidArguments("")


def option_parts(grammar, assignments):
    """Return the parts of a shortest line that give these options.

    A part is one token, or an option and its value.
    """
    names = names_of(grammar[0])
    given = [option for option in grammar[0] if option[0] in assignments]
    # A short name is always shorter than a long option, even in a token of its own.
    letters = "".join([short_name for _, short_name, kind in given if kind is None])
    # From how many of the letters have been written to the shortest parts with them.
    found = {0: [
        "--" + shortest_beginning(name, names) for name, short_name, kind in given if kind is None and short_name == ""
    ]}
    for name, short_name, kind in given:
        if kind is not None:
            text = shorten_value(kind, assignments[name])
            found = with_value(found, letters, (shortest_beginning(name, names), short_name, text))
    last_bundles = [
        parts + ["-" + letters[count:]] if count < len(letters) else parts for count, parts in found.items()
    ]
    return min(last_bundles, key=total_length)


def with_value(found, letters, option):
    """Return the shortest parts for each number of letters with one more option that has a value."""
    longer = {}
    quoted = quote(option[2])
    for count in range(len(letters) + 1):
        ways = [
            parts + [part]
            for done, parts in found.items() if done <= count
            for part in ways_to_write(option, quoted, letters[done:count])
        ]
        if ways:
            longer[count] = min(ways, key=total_length)
    return longer


def ways_to_write(option, quoted, letters):
    """Return the ways to write an option and its value behind some letters of a bundle.

    A way that is no shorter than another one with the same letters may be missing.
    """
    beginning, short_name, text = option
    ways = []
    if letters == "":
        # Only an empty value is shorter behind a sign than in a token of its own.
        ways.append(f"--{beginning}=" if text == "" else f"--{beginning} {quoted}")
    if short_name != "":
        bundle = f"-{letters}{short_name}"
        ways.append(f"{bundle} {quoted}")
        # A token must not become too long to be read.
        if text != "" and len(bundle) + len(text) <= MOST_CHARACTERS:
            ways.append(bundle + quoted)
    return ways


def total_length(parts):
    """Return the length of some parts, each with a blank."""
    return sum([len(part) + 1 for part in parts])
