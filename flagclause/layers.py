"""Layers: which options count if several configurations give some."""

from flagclause.analysis import check_satisfiable
from flagclause.completion import conflict_chain
from flagclause.errors import InvalidLayer
from flagclause.grammar import check_grammar, is_tuple_of
from flagclause.values import is_assignment


def resolve(grammar, layers):
    """Return the tuple of the list of kept items and the list of dropped items."""
    check_grammar(grammar)
    check_layers(grammar, layers)
    check_satisfiable(grammar)
    given = []
    kept = []
    dropped = []
    for layer, items in enumerate(layers):
        for name, value in items:
            if name in given:
                dropped.append((layer, name, None))
                continue
            chain = conflict_chain(grammar[2], given + [name])
            if chain is None:
                given.append(name)
                kept.append((name, value, layer))
            else:
                dropped.append((layer, name, tuple(chain)))
    return (kept, dropped)


def check_layers(grammar, layers):
    """Raise InvalidLayer with the index of the first item of a list that is not a layer."""
    if not isinstance(layers, list):
        raise InvalidLayer(0)
    for index, layer in enumerate(layers):
        if not is_layer(grammar, layer):
            raise InvalidLayer(index)


def is_layer(grammar, layer):
    """Return whether something is a list of distinct options of a grammar and their values."""
    if not isinstance(layer, list):
        return False
    names = []
    for item in layer:
        if not is_tuple_of(item, 2):
            return False
        name, value = item
        if name in names or not is_assignment(grammar, name, value):
            return False
        names.append(name)
    return True
