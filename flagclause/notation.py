"""Notation: grammars as texts."""

from flagclause.errors import NotationError
from flagclause.grammar import CLAUSE_WORDS, LETTERS, check_grammar, is_option_name, is_short_name, is_text_of
from flagclause.values import parse_integer

NO_SHORT_NAME = "-"


def format_grammar(grammar):
    """Return the text of a grammar."""
    check_grammar(grammar)
    options, positionals, clauses = grammar
    minimum, maximum = positionals
    rows = [" ".join(option_words(option)) for option in options]
    rows.append(f"words {minimum} {maximum}")
    rows.extend([" ".join(clause) for clause in clauses])
    return "\n".join(rows)


def parse_grammar(text):
    """Return the grammar of a text."""
    if not isinstance(text, str):
        raise NotationError(0, 0)
    rows = [row.split(" ") for row in text.split("\n")]
    options = []
    positionals = None
    clauses = []
    for number, words in enumerate(rows):
        check_row(number, words, positionals is not None)
        if words[0] == "option":
            options.append(option_of(words))
        elif words[0] == "words":
            positionals = (int(words[1]), int(words[2]))
        else:
            clauses.append(tuple(words))
    if positionals is None:
        raise NotationError(len(rows), 0)
    grammar = (tuple(options), positionals, tuple(clauses))
    check_grammar(grammar)
    return grammar


def option_words(option):
    """Return the list of the words of the row of an option."""
    name, short_name, kind = option
    words = ["option", name, NO_SHORT_NAME if short_name == "" else short_name]
    if kind is None:
        return words + ["flag"]
    if kind[0] == "int":
        return words + ["int", str(kind[1]), str(kind[2])]
    if kind[0] == "choice":
        return words + ["choice", *kind[1]]
    return words + ["word"]


def option_of(words):
    """Return the option of a row that has the right form."""
    short_name = "" if words[2] == NO_SHORT_NAME else words[2]
    return (words[1], short_name, kind_of(words[3:]))


def kind_of(words):
    """Return the kind that the last words of the row of an option stand for."""
    if words[0] == "int":
        return ("int", int(words[1]), int(words[2]))
    if words[0] == "choice":
        return ("choice", tuple(words[1:]))
    return ("word",) if words[0] == "word" else None


def check_row(number, words, is_behind_numbers):
    """Raise NotationError with the first word of a row that cannot stand there.

    Clauses come behind the numbers of positional words, and all other rows ahead of them.
    """
    tests = tests_of_row(words, is_behind_numbers)
    for column, word in enumerate(words):
        if column == len(tests):
            raise NotationError(number, column)
        is_right = tests[column]
        if not is_right(word):
            raise NotationError(number, column)
    if len(words) < len(tests):
        raise NotationError(number, len(words))


def tests_of_row(words, is_behind_numbers):
    """Return the list of the functions that tell whether a word can stand at each place of a row."""
    if is_behind_numbers:
        return [is_clause_word, is_option_name, is_option_name]
    if words[0] == "words":
        return [is_row_word, is_integer, is_integer]
    tests = [is_row_word, is_option_name, is_short_word, is_kind_word]
    if words[3:4] == ["int"]:
        return tests + [is_integer, is_integer]
    if words[3:4] == ["choice"]:
        return tests + [is_choice] * max(1, len(words) - 4)
    return tests


def is_clause_word(word):
    """Return whether a word is the first one of a clause."""
    return word in CLAUSE_WORDS


def is_row_word(word):
    """Return whether a word is the first one of another row than that of a clause."""
    return word in ("option", "words")


def is_kind_word(word):
    """Return whether a word names a kind of options."""
    return word in ("flag", "int", "choice", "word")


def is_short_word(word):
    """Return whether a word is a short name or stands for none."""
    return word == NO_SHORT_NAME or (word != "" and is_short_name(word))


def is_integer(word):
    """Return whether a word is an integer, whatever its range."""
    return parse_integer(word) is not None


def is_choice(word):
    """Return whether a word can be one of the words of a choice."""
    return is_text_of(word, LETTERS)
