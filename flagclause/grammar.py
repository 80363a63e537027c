"""Grammars: what makes one valid, and the names of its options."""

from flagclause.errors import InvalidGrammar

LETTERS = "abcdefghijklmnopqrstuvwxyz"
NAME_CHARACTERS = "-abcdefghijklmnopqrstuvwxyz"
CLAUSE_WORDS = ("needs", "excludes", "either")

MOST_LETTERS = 12
MOST_OPTIONS = 12
MOST_CHOICES = 8
MOST_POSITIONALS = 9
MOST_CLAUSES = 60
LOWEST_BOUND = -9999
HIGHEST_BOUND = 9999


def option_names(grammar):
    """Return the list of the option names, in the order of the grammar."""
    check_grammar(grammar)
    return names_of(grammar[0])


def check_grammar(grammar):
    """Raise InvalidGrammar with the first invalid part of a grammar."""
    if not is_tuple_of(grammar, 3):
        raise InvalidGrammar("grammar", 0)
    options, positionals, clauses = grammar
    check_options(options)
    check_positionals(positionals)
    check_clauses(clauses, names_of(options))


def check_options(options):
    """Raise InvalidGrammar with the index of the first invalid option."""
    if not isinstance(options, tuple) or len(options) == 0:
        raise InvalidGrammar("options", 0)
    names = []
    short_names = []
    for index, option in enumerate(options):
        if index >= MOST_OPTIONS or not is_option(option):
            raise InvalidGrammar("options", index)
        name, short_name, _ = option
        if name in names or short_name in short_names:
            raise InvalidGrammar("options", index)
        names.append(name)
        # Any number of options may go without a short name.
        if short_name != "":
            short_names.append(short_name)


def check_positionals(positionals):
    """Raise InvalidGrammar unless there are a minimum and a maximum."""
    if not is_tuple_of(positionals, 2):
        raise InvalidGrammar("positionals", 0)
    minimum, maximum = positionals
    if not is_number(minimum, 0, MOST_POSITIONALS):
        raise InvalidGrammar("positionals", 0)
    if not is_number(maximum, minimum, MOST_POSITIONALS):
        raise InvalidGrammar("positionals", 1)


def check_clauses(clauses, names):
    """Raise InvalidGrammar with the index of the first invalid clause."""
    if not isinstance(clauses, tuple):
        raise InvalidGrammar("clauses", 0)
    for index, clause in enumerate(clauses):
        if index >= MOST_CLAUSES or not is_clause(clause, names):
            raise InvalidGrammar("clauses", index)


def names_of(options):
    """Return the list of the names of valid options."""
    return [option[0] for option in options]


def kinds_of(options):
    """Return a dict from the names of valid options to their kinds, in their order."""
    return {name: kind for name, _, kind in options}


def is_option(option):
    """Return whether something is an option, as far as it tells by itself."""
    if not is_tuple_of(option, 3):
        return False
    name, short_name, kind = option
    return is_option_name(name) and is_short_name(short_name) and is_kind(kind)


def is_clause(clause, names):
    """Return whether something is a clause about options with these names."""
    if not is_tuple_of(clause, 3):
        return False
    word, first, second = clause
    return word in CLAUSE_WORDS and first in names and second in names


def is_option_name(name):
    """Return whether something can be the name of an option."""
    return is_text_of(name, NAME_CHARACTERS) and not name.startswith("-") and not name.endswith("-")


def is_short_name(short_name):
    """Return whether something can be a short name, or stands for none."""
    if short_name == "":
        return True
    return is_text_of(short_name, LETTERS) and len(short_name) == 1


def is_kind(kind):
    """Return whether something is the kind of an option."""
    return kind is None or is_value_kind(kind)


def is_value_kind(kind):
    """Return whether something is the kind of an option with a value."""
    if is_tuple_of(kind, 3) and kind[0] == "int":
        return are_bounds(kind[1], kind[2])
    if is_tuple_of(kind, 2) and kind[0] == "choice":
        return are_choices(kind[1])
    return kind == ("word",)


def are_bounds(low, high):
    """Return whether two values are the ends of a range of integers."""
    return is_number(low, LOWEST_BOUND, HIGHEST_BOUND) and is_number(high, low, HIGHEST_BOUND)


def are_choices(words):
    """Return whether something is a tuple of words to choose from."""
    if not isinstance(words, tuple) or not 1 <= len(words) <= MOST_CHOICES:
        return False
    return all(is_text_of(word, LETTERS) for word in words) and len(set(words)) == len(words)


def is_text_of(text, characters):
    """Return whether something is a string of 1 to 12 of these characters."""
    if not isinstance(text, str) or not 1 <= len(text) <= MOST_LETTERS:
        return False
    return all(character in characters for character in text)


def is_number(value, low, high):
    """Return whether something is an integer in a range."""
    # Python counts True and False among the integers; a grammar does not.
    return isinstance(value, int) and not isinstance(value, bool) and low <= value <= high


def is_tuple_of(value, count):
    """Return whether something is a tuple with this number of items."""
    return isinstance(value, tuple) and len(value) == count
