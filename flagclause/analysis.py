"""Analysis: which sets of options a grammar accepts, and what they have in common."""

from itertools import combinations

from flagclause.errors import UnknownOption, Unsatisfiable
from flagclause.grammar import check_grammar, names_of, option_names
from flagclause.implications import contrary, required_literals, shortest_chain


def is_accepted(grammar, names):
    """Return whether a grammar accepts a list or tuple of names."""
    check_names(option_names(grammar), names)
    return satisfies(names, grammar[2])


def contradiction(grammar):
    """Return a tuple of two chains that show that a grammar is unsatisfiable, or None."""
    for name in option_names(grammar):
        there = refutation(grammar[2], (name, False))
        back = refutation(grammar[2], (name, True))
        if there is not None and back is not None:
            return (there, back)
    return None


def count_accepted(grammar):
    """Return the number of accepted sets."""
    check_grammar(grammar)
    return len(accepted_sets(grammar))


def always_required(grammar):
    """Return the list of the options that all accepted sets contain."""
    names = option_names(grammar)
    check_satisfiable(grammar)
    return [name for name in names if refutation(grammar[2], (name, False)) is not None]


def never_possible(grammar):
    """Return the list of the options that no accepted set contains."""
    names = option_names(grammar)
    check_satisfiable(grammar)
    return [name for name in names if refutation(grammar[2], (name, True)) is not None]


def option_groups(grammar):
    """Return the list of the lists of options that are always given together."""
    names = option_names(grammar)
    check_satisfiable(grammar)
    accepted = accepted_sets(grammar)
    groups = {}
    for name in names:
        occurrences = tuple(name in chosen for chosen in accepted)
        groups.setdefault(occurrences, []).append(name)
    return list(groups.values())


def check_names(names, given):
    """Raise UnknownOption with the first given item that is not one of the names."""
    if not isinstance(given, (list, tuple)):
        raise UnknownOption(given)
    for name in given:
        if name not in names:
            raise UnknownOption(name)


def check_satisfiable(grammar):
    """Raise InvalidGrammar, or Unsatisfiable if a grammar accepts no set of options."""
    if contradiction(grammar) is not None:
        raise Unsatisfiable()


def refutation(clauses, literal):
    """Return the shortest chain from a literal to its contrary, or None."""
    return shortest_chain(clauses, [literal], [contrary(literal)])


def all_sets(names):
    """Return the list of all sets of names, as ascending lists.

    Sets of fewer names come first, those of equally many names in list order.
    """
    ordered = sorted(names)
    return [list(chosen) for size in range(len(ordered) + 1) for chosen in combinations(ordered, size)]


def accepted_sets(grammar):
    """Return the list of the accepted sets, in the same order."""
    return [chosen for chosen in all_sets(names_of(grammar[0])) if satisfies(chosen, grammar[2])]


def smallest_set(grammar, literals):
    """Return the first accepted set in which these literals are true, or None."""
    for chosen in all_sets(names_of(grammar[0])):
        if all(is_true(literal, chosen) for literal in literals) and satisfies(chosen, grammar[2]):
            return chosen
    return None


def satisfies(chosen, clauses):
    """Return whether a set of options satisfies all clauses."""
    return all(is_met(clause, chosen) for clause in clauses)


def is_met(clause, chosen):
    """Return whether a set of options satisfies a clause."""
    first, second = required_literals(clause)
    return is_true(first, chosen) or is_true(second, chosen)


def is_true(literal, chosen):
    """Return whether a literal is true if exactly these options are given."""
    name, truth = literal
    return (name in chosen) == truth
