"""Chains: which literals follow from others by the clauses of a grammar."""

from flagclause.errors import UnknownOption
from flagclause.grammar import is_tuple_of, option_names

# The truths of the two literals of which a clause requires at least one.
REQUIRED_TRUTHS = {"needs": (False, True), "excludes": (False, False), "either": (True, True)}


def find_chain(grammar, start, goal):
    """Return the shortest chain from one literal to another, or None."""
    names = option_names(grammar)
    check_literal(names, start)
    check_literal(names, goal)
    return shortest_chain(grammar[2], [start], [goal])


def consequences(grammar, literals):
    """Return the ascending list of the literals that follow from others."""
    names = option_names(grammar)
    if not isinstance(literals, (list, tuple)):
        raise UnknownOption(None)
    for literal in literals:
        check_literal(names, literal)
    return sorted(shortest_chains(grammar[2], literals))


def check_literal(names, literal):
    """Raise UnknownOption unless something is a literal about these names."""
    if not has_form_of_literal(literal):
        raise UnknownOption(None)
    if literal[0] not in names:
        raise UnknownOption(literal[0])


def has_form_of_literal(literal):
    """Return whether something is a pair of anything and a truth."""
    return is_tuple_of(literal, 2) and isinstance(literal[1], bool)


def contrary(literal):
    """Return the literal that says the opposite."""
    name, truth = literal
    return (name, not truth)


def required_literals(clause):
    """Return the two literals of which a clause requires at least one."""
    word, first, second = clause
    first_truth, second_truth = REQUIRED_TRUTHS[word]
    return (first, first_truth), (second, second_truth)


def steps_of(clauses):
    """Return a dict from literals to the lists of literals one step further."""
    steps = {}
    for clause in clauses:
        first, second = required_literals(clause)
        steps.setdefault(contrary(first), []).append(second)
        steps.setdefault(contrary(second), []).append(first)
    return steps


def shortest_chain(clauses, starts, goals):
    """Return the shortest chain from one of several literals to one of others, or None.

    It is the smallest one in list order of several.
    """
    chains = shortest_chains(clauses, starts)
    found = [chains[goal] for goal in goals if goal in chains]
    return min(found, key=lambda chain: (len(chain), chain), default=None)


def shortest_chains(clauses, starts):
    """Return a dict from each literal that chains from the starts reach to its chain.

    It is the shortest one, and the smallest in list order of several.
    """
    steps = steps_of(clauses)
    queue = sorted(starts)
    chains = {literal: [literal] for literal in queue}
    # Literals wait in the order of their chains: shorter before longer, smaller
    # before greater. So the first chain that arrives at a literal is its best one.
    while queue:
        literal = queue.pop(0)
        for following in sorted(steps.get(literal, [])):
            if following not in chains:
                chains[following] = chains[literal] + [following]
                queue.append(following)
    return chains
