"""What several test files need: grammars, and the errors that calls raise."""

EXAMPLE = (
    (("sign", "s", None), ("key", "k", ("word",)), ("raw", "", None)),
    (0, 2),
    (("needs", "sign", "key"), ("excludes", "key", "raw")),
)

# Values of every kind that may stand at any place of an invalid grammar.
ODD_VALUES = (
    None, True, False, 0, 1, -1, 5, 10 ** 5000, "", "a", "sign", "needs", "int", "zz", "a\n", "\u00e9",
    (), ("a",), ("a", "b"), ("a", "", None), ((), (), ()), (((),),), (None, None, None), ("needs", "sign", "key"),
    [], ["a"], ["a", "b"], ["a", "", None], [[]], [("a", "", None)], [0, 2], ["needs", "sign", "key"],
)


def flags(*names):
    """Return options without short names and values."""
    return tuple((name, "", None) for name in names)


def grammar_of(names, *clauses):
    """Return a grammar with options without values, from a string of names."""
    return (flags(*names.split()), (0, 0), tuple(tuple(clause.split()) for clause in clauses))


def error_of(function, *arguments):
    """Return the exception that a call raises."""
    try:
        value = function(*arguments)
    except Exception as error:
        return error
    raise AssertionError(f"no exception, but the value {value!r}")
