"""Comparison: which clauses follow from others, and where two grammars differ."""

from flagclause.analysis import all_sets, check_satisfiable, satisfies, smallest_set
from flagclause.errors import DifferentOptions, InvalidClause
from flagclause.grammar import is_clause, option_names
from flagclause.implications import contrary, required_literals, shortest_chain


def implied(grammar, clause):
    """Return the chain by which a grammar implies a clause, or None."""
    check_clause(grammar, clause)
    check_satisfiable(grammar)
    return implying_chain(grammar[2], clause)


def counterexample(grammar, clause):
    """Return the smallest accepted set that violates a clause, or None."""
    check_clause(grammar, clause)
    check_satisfiable(grammar)
    return smallest_set(grammar, violating_literals(clause))


def redundant_clauses(grammar):
    """Return the list of the indexes of the clauses that the other clauses imply."""
    check_satisfiable(grammar)
    clauses = grammar[2]
    return [index for index in range(len(clauses)) if is_redundant(clauses, index)]


def reduce_clauses(grammar):
    """Return the grammar without redundant clauses, from the last clause to the first."""
    check_satisfiable(grammar)
    options, positionals, clauses = grammar
    kept = clauses
    for index in reversed(range(len(clauses))):
        if is_redundant(kept, index):
            kept = without(kept, index)
    return (options, positionals, kept)


def missing_clause(grammar, other):
    """Return the index of the first clause of another grammar that a grammar does not imply, or None."""
    check_same_options(grammar, other)
    check_satisfiable(grammar)
    for index, clause in enumerate(other[2]):
        if implying_chain(grammar[2], clause) is None:
            return index
    return None


def first_difference(grammar, other):
    """Return the smallest set that exactly one grammar accepts, and whether the first does, or None."""
    check_same_options(grammar, other)
    for chosen in all_sets(option_names(grammar)):
        accepted = satisfies(chosen, grammar[2])
        if accepted != satisfies(chosen, other[2]):
            return (chosen, accepted)
    return None


def check_clause(grammar, clause):
    """Raise InvalidClause unless something is a clause about options of a grammar."""
    if not is_clause(clause, option_names(grammar)):
        raise InvalidClause()


def check_same_options(grammar, other):
    """Raise DifferentOptions unless two grammars have the same option names, in any order."""
    names = option_names(grammar)
    if sorted(names) != sorted(option_names(other)):
        raise DifferentOptions()


def implying_chain(clauses, clause):
    """Return the shortest chain that shows that satisfiable clauses imply another one, or None."""
    return shortest_chain(clauses, violating_literals(clause), required_literals(clause))


def violating_literals(clause):
    """Return the two literals that are both true if a clause is violated."""
    return [contrary(literal) for literal in required_literals(clause)]


def is_redundant(clauses, index):
    """Return whether the other clauses imply the clause at an index."""
    return implying_chain(without(clauses, index), clauses[index]) is not None


def without(clauses, index):
    """Return the clauses but for the one at an index."""
    return clauses[:index] + clauses[index + 1:]
