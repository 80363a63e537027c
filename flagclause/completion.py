"""Completion: which options may, must or cannot join the given ones, and why."""

from flagclause.analysis import check_names, check_satisfiable, smallest_set
from flagclause.errors import Conflict
from flagclause.grammar import option_names
from flagclause.implications import contrary, shortest_chain


def verdicts(grammar, given):
    """Return a dict from each option to "given", "required", "possible" or "impossible"."""
    check_given(grammar, given)
    return {name: verdict(grammar[2], given, name) for name in option_names(grammar)}


def explain_verdict(grammar, given, name):
    """Return the chain that shows that an option is required or impossible, or None."""
    check_given(grammar, given)
    check_names(option_names(grammar), [name])
    return explanation(grammar[2], given, name)


def complete(grammar, given):
    """Return the smallest accepted set that contains the given options."""
    check_given(grammar, given)
    return smallest_set(grammar, all_given(given))


def complete_with(grammar, given, name, is_given):
    """Return the smallest such set with or without another option, or None."""
    check_given(grammar, given)
    check_names(option_names(grammar), [name])
    return smallest_set(grammar, all_given(given) + [(name, is_given)])


def check_given(grammar, given):
    """Raise UnknownOption, Unsatisfiable or Conflict unless the given options can be completed."""
    check_names(option_names(grammar), given)
    check_satisfiable(grammar)
    chain = conflict_chain(grammar[2], given)
    if chain is not None:
        raise Conflict(tuple(chain))


def conflict_chain(clauses, given):
    """Return the shortest chain that shows that the given options cannot be completed, or None."""
    goals = [contrary(literal) for literal in all_given(given)]
    return shortest_chain(clauses, all_given(given), goals)


def verdict(clauses, given, name):
    """Return what the given options, which can be completed, say about an option."""
    if name in given:
        return "given"
    chain = explanation(clauses, given, name)
    if chain is None:
        return "possible"
    return "required" if chain[-1] == (name, True) else "impossible"


def explanation(clauses, given, name):
    """Return the shortest chain that decides about an option that is not given, or None."""
    if name in given:
        return None
    # At most one of the two literals is true in all completions.
    for literal in ((name, True), (name, False)):
        # What leads to its own contrary is false, so a chain may also start there.
        starts = all_given(given) + [contrary(literal)]
        chain = shortest_chain(clauses, starts, [literal])
        if chain is not None:
            return chain
    return None


def all_given(given):
    """Return the literals that say that these options are given."""
    return [(name, True) for name in given]
