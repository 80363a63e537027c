"""Evidence: what chains show, checked step by step against the clauses."""

from flagclause.analysis import check_names
from flagclause.errors import InvalidChain, InvalidClause
from flagclause.grammar import check_grammar, is_clause, is_tuple_of, option_names
from flagclause.implications import contrary, has_form_of_literal, required_literals


def check_chain(grammar, chain):
    """Return the list of the clauses that justify the steps of a chain."""
    names = option_names(grammar)
    if not isinstance(chain, list) or len(chain) == 0:
        raise InvalidChain(0)
    justifying = []
    for index, literal in enumerate(chain):
        if not has_form_of_literal(literal) or literal[0] not in names:
            raise InvalidChain(index)
        if index > 0:
            clause = clause_of_step(grammar[2], chain[index - 1], literal)
            if clause is None:
                raise InvalidChain(index)
            justifying.append(clause)
    return justifying


def describe(grammar, chain):
    """Return the list of one string for each step of a chain."""
    clauses = check_chain(grammar, chain)
    return [description(clause, literal) for clause, literal in zip(clauses, chain[1:])]


def judge(grammar, given, name, chain):
    """Return what a chain shows about an option: "required", "impossible" or None."""
    names = option_names(grammar)
    check_names(names, given)
    check_names(names, [name])
    check_chain(grammar, chain)
    start, end = chain[0], chain[-1]
    if end[0] != name or not (is_one_given(start, given) or start == contrary(end)):
        return None
    return "required" if end[1] else "impossible"


def shows_conflict(grammar, given, chain):
    """Return whether a chain shows that the given options cannot be completed."""
    check_names(option_names(grammar), given)
    check_chain(grammar, chain)
    return is_one_given(chain[0], given) and is_one_given(contrary(chain[-1]), given)


def shows_implied(grammar, clause, chain):
    """Return whether a chain shows that a grammar implies a clause."""
    if not is_clause(clause, option_names(grammar)):
        raise InvalidClause()
    check_chain(grammar, chain)
    literals = required_literals(clause)
    return contrary(chain[0]) in literals and chain[-1] in literals


def shows_contradiction(grammar, chains):
    """Return whether two chains show that a grammar is unsatisfiable."""
    check_grammar(grammar)
    if not is_tuple_of(chains, 2):
        raise InvalidChain(0)
    there, back = chains
    check_chain(grammar, there)
    check_chain(grammar, back)
    return there[-1] == contrary(there[0]) and back[0] == there[-1] and back[-1] == there[0]


def clause_of_step(clauses, start, goal):
    """Return the first clause with a step from one literal to another, or None."""
    for clause in clauses:
        if required_literals(clause) in ((contrary(start), goal), (goal, contrary(start))):
            return clause
    return None


def description(clause, literal):
    """Return the text of the step by which a clause leads to a literal."""
    word, first, second = clause
    name, truth = literal
    shown = f"--{name}" if truth else f"no --{name}"
    return f"{first} {word} {second}: {shown}"


def is_one_given(literal, given):
    """Return whether a literal says that one of the given options is given."""
    name, truth = literal
    return truth and name in given
