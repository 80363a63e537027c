"""What several test files need: grammars, searches through them, and errors.

The searches follow the words of the document and use nothing of the package.
"""

import copy
import itertools
import random
import re

from flagclause.errors import InvalidGrammar

EXAMPLE = (
    (("sign", "s", None), ("key", "k", ("word",)), ("raw", "", None)),
    (0, 2),
    (("needs", "sign", "key"), ("excludes", "key", "raw")),
)

# The grammar of the examples about lines, with every kind of option.
LINE_EXAMPLE = (
    (
        ("sign", "s", None),
        ("key", "k", ("word",)),
        ("level", "l", ("int", 0, 9)),
        ("mode", "", ("choice", ("fast", "full", "slow"))),
    ),
    (0, 2),
    (("needs", "sign", "key"),),
)

VALID_CHARACTERS = "".join(chr(code) for code in range(ord(" "), ord("~") + 1) if chr(code) != "%")
INVALID_CHARACTERS = ("%", "\x00", "\t", "\n", "\x1f", "\x7f", "\x80", "\u00e9", "\u0661", "\U0001f600")

# Values of every kind that are no tokens.
NO_TOKENS = (
    None, True, False, 0, 1, -1, 10 ** 5000, (), ("a",), [], ["a"], {}, {"a": True}, "a" * 201, " " * 1000,
    *INVALID_CHARACTERS, *[f"a{character}" for character in INVALID_CHARACTERS],
    *[f"{character}a" for character in INVALID_CHARACTERS], "a" * 199 + "%", "%" * 201,
)

# Values of every kind that are neither lists nor tuples.
NO_LISTS = (None, True, False, 0, 5, -1, "", "a", "--sign", {}, {"a": True})

# Values of every kind that may stand at any place of an invalid grammar.
ODD_VALUES = (
    None, True, False, 0, 1, -1, 5, 10 ** 5000, "", "a", "sign", "needs", "int", "zz", "a\n", "\u00e9",
    (), ("a",), ("a", "b"), ("a", "", None), ((), (), ()), (((),),), (None, None, None), ("needs", "sign", "key"),
    [], ["a"], ["a", "b"], ["a", "", None], [[]], [("a", "", None)], [0, 2], ["needs", "sign", "key"],
)

# What no list of option names of EXAMPLE may contain.
NO_NAMES = (
    "", "keys", "ke", "s", "KEY", "-", None, 0, 1, 5, True, False, (), ("key",), ("key", True), [], ["key"], [["key"]],
)

# What is not even a pair of something and a truth.
NO_PAIRS = (
    None, 0, 1, True, False, "", "key", "ke", (), ("key",), ("key", True, True), ("keys", True, True),
    ["key", True], ["keys", True], [], [("key", True)], (("key", True),), ("key", 1), ("key", 0),
    ("key", None), ("key", "True"), ("key", ""), ("keys", 1), ("keys", None), ("key", (True,)),
    ("key", [True]), (True, "key"), (True,), (None, None),
)


def flags(*names):
    """Return options without short names and values."""
    return tuple((name, "", None) for name in names)


def grammar_of(names, *clauses):
    """Return a grammar with options without values, from a string of names."""
    return (flags(*names.split()), (0, 0), tuple(tuple(clause.split()) for clause in clauses))


def error_of(function, *arguments):
    """Return the exception that a call raises."""
    try:
        value = function(*arguments)
    except Exception as error:
        return error
    raise AssertionError(f"no exception, but the value {value!r}")


# Each with the part and the index of its first error.
INVALID_GRAMMARS = (
    (None, "grammar", 0),
    (list(EXAMPLE), "grammar", 0),
    (EXAMPLE[:2], "grammar", 0),
    (grammar_of("a a"), "options", 1),
    (((), (0, 0), ()), "options", 0),
    ((flags("a"), (2, 1), ()), "positionals", 1),
    ((flags("a"), (-1, 1), None), "positionals", 0),
    (grammar_of("a b", "needs a b", "needs a c"), "clauses", 1),
    ((flags("a"), (0, 0), []), "clauses", 0),
)


def literal(text):
    """Return the literal that "+name" or "-name" stands for."""
    return (text[1:], text[0] == "+")


def literals(text):
    return [literal(part) for part in text.split()]


def names_in(grammar):
    return [option[0] for option in grammar[0]]


def all_literals(grammar):
    return [(name, truth) for name in names_in(grammar) for truth in (False, True)]


def opposite(item):
    return (item[0], not item[1])


def is_step(grammar, first, second):
    """Return whether some clause has a step, as the document words it."""
    (one, truth), (other, other_truth) = first, second
    wanted = {
        (False, True): [("either", one, other), ("either", other, one)],
        (True, False): [("excludes", one, other), ("excludes", other, one)],
        (True, True): [("needs", one, other)],
        (False, False): [("needs", other, one)],
    }
    return any(clause in grammar[2] for clause in wanted[truth, other_truth])


def chain_by_search(grammar, start, goal):
    """Return the smallest of all shortest chains, found by making every one."""
    chains = [[start]]
    for _ in all_literals(grammar):
        found = [chain for chain in chains if chain[-1] == goal]
        if found:
            return min(found)
        chains = [
            chain + [item]
            for chain in chains
            for item in all_literals(grammar)
            if item not in chain and is_step(grammar, chain[-1], item)
        ]
    return None


def best_chain(grammar, pairs):
    """Return the smallest of the shortest chains over pairs of a start and a goal."""
    found = [chain_by_search(grammar, start, goal) for start, goal in pairs]
    return min((chain for chain in found if chain), key=lambda chain: (len(chain), chain), default=None)


def in_order(sets):
    """Return sets of names as ascending lists: fewer options first, then in list order."""
    return sorted((sorted(chosen) for chosen in sets), key=lambda chosen: (len(chosen), chosen))


def is_met(clause, chosen):
    """Return whether a set of names satisfies a clause."""
    word, first, second = clause
    return {
        "needs": first not in chosen or second in chosen,
        "excludes": first not in chosen or second not in chosen,
        "either": first in chosen or second in chosen,
    }[word]


def all_sets(grammar):
    names = names_in(grammar)
    sizes = range(len(names) + 1)
    return in_order(chosen for size in sizes for chosen in itertools.combinations(names, size))


def accepted_by_search(grammar, given=()):
    """Return all accepted sets that contain the given options, the smallest first."""
    return [
        chosen for chosen in all_sets(grammar)
        if set(given) <= set(chosen) and all(is_met(clause, chosen) for clause in grammar[2])
    ]


def random_clauses(source, names, count):
    words = ("needs", "excludes", "either")
    return tuple((source.choice(words), source.choice(names), source.choice(names)) for _ in range(count))


def grammars_for_search(seed=5, count=150, most_clauses=8):
    """Return small random grammars, some of them unsatisfiable."""
    source = random.Random(seed)
    found = []
    for _ in range(count):
        names = source.sample(["a", "b", "c", "d-e", "de", "z"], source.randint(1, 4))
        clauses = random_clauses(source, names, source.randint(0, most_clauses))
        found.append((flags(*names), (0, 0), clauses))
    return found


def large_grammars(seed=7, count=6):
    """Return satisfiable grammars with 12 options and 60 clauses."""
    source = random.Random(seed)
    names = ["k", "b", "a-b", "ab", "l", "c", "z", "y", "x-y", "f", "g", "h"]
    found = []
    for _ in range(count):
        chosen = source.sample(names, source.randint(2, 9))
        clauses = [clause for clause in random_clauses(source, names, 600) if is_met(clause, chosen)]
        found.append((flags(*names), (0, 0), tuple(clauses[:60])))
    return found


def tokens_by_search(line):
    """Return the tokens of a line, or the index of the first part that does not end."""
    part = re.compile(r"""[^ '"\\]|\\.|'[^']*'|"(?:\\.|[^"\\])*\"""")
    tokens, index, is_apart = [], 0, True
    while index < len(line):
        found = part.match(line, index)
        if line[index] == " ":
            is_apart = True
            index += 1
            continue
        if not found:
            return index
        text = found.group()
        if text[0] == "'":
            text = text[1:-1]
        else:
            text = re.sub(r"\\(.)", r"\1", text[1:-1] if text[0] == '"' else text)
        if is_apart:
            tokens.append("")
        tokens[-1] += text
        is_apart = False
        index = found.end()
    return tokens


def value_by_search(kind, text):
    """Return the value that a text represents, or None."""
    if kind[0] == "int":
        return {str(number): number for number in range(kind[1], kind[2] + 1)}.get(text)
    if kind[0] == "choice":
        found = [word for word in kind[1] if word == text] or [word for word in kind[1] if re.match(text + "[a-z]", word)]
        return found[0] if len(found) == 1 and text else None
    return text


def reading_by_search(grammar, tokens):
    """Return what read_prefix returns for valid tokens, or the index and the reason of an error."""
    given, words, queue = {}, [], list(enumerate(tokens))
    kinds = {option[0]: option[2] for option in grammar[0]}
    shorts = {option[1]: option[0] for option in grammar[0] if option[1]}
    is_separated = False
    while queue:
        index, token = queue.pop(0)
        # What a token says: pairs of an option, or of a reason, and the text of a value or None.
        if not is_separated and token == "--":
            is_separated = True
            continue
        if not is_separated and re.match("--.", token):
            text, sign, rest = re.fullmatch("--([^=]*)(=?)(.*)", token).groups()
            found = [text] if text in kinds else [name for name in kinds if text and name[:len(text)] == text]
            name = found[0] if len(found) == 1 else ["unknown", "ambiguous"][len(found) > 1]
            said = [(name, rest if sign else None)]
        elif not is_separated and re.match("-[a-z]", token):
            said, rest = [], token[1:]
            while rest:
                name, rest = shorts.get(rest[0], "unknown"), rest[1:]
                text = None
                if kinds.get(name) and rest:
                    text, rest = rest, ""
                said.append((name, text))
        else:
            if len(words) == grammar[1][1]:
                return (index, "positionals")
            words.append(token)
            continue
        for name, text in said:
            if name not in kinds:
                return (index, name)
            if name in given:
                return (index, "repeated")
            if kinds[name] is None:
                if text is not None:
                    return (index, "value")
                given[name] = True
                continue
            if text is None:
                if not queue:
                    return (given, words, name, is_separated)
                index, text = queue.pop(0)
            given[name] = value_by_search(kinds[name], text)
            if given[name] is None:
                return (index, "value")
    return (given, words, None, is_separated)


def check_defined_in(test, file, *functions):
    """Check that a file of the package defines these functions itself."""
    for function in functions:
        test.assertEqual(function.__module__, file.__name__)
        test.assertIs(getattr(file, function.__name__), function)


def check_error(test, expected, function, *arguments):
    """Check that a call raises exactly this error, and that it changes no argument."""
    before = copy.deepcopy(arguments)
    error = error_of(function, *arguments)
    test.assertIs(type(error), type(expected), error)
    test.assertEqual(vars(error), vars(expected))
    # Numbers and booleans may be equal.
    test.assertEqual(repr(vars(error)), repr(vars(expected)))
    test.assertEqual(arguments, before)


def check_invalid_grammars(test, function, *arguments):
    """Check the first error of each invalid grammar, whatever the other arguments are."""
    for place, (grammar, part, index) in enumerate(INVALID_GRAMMARS):
        with test.subTest((function.__name__, place)):
            check_error(test, InvalidGrammar(part, index), function, grammar, *arguments)
