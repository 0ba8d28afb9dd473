"""Foldings of a store, its core and its blocks."""

from corestore.leads import is_lead, lead
from corestore.stores import knots, plain, renamed, unknowns


def folding(store):
    """Any folding of the store; None if there is none."""
    for knot in knots(store):
        for name in unknowns(knot):
            # A folding loses an unknown of some knot (else it only renames, and no fact is lost); that it moves this
            # knot is enough.
            pairs = lead(knot, [fact for fact in store if name not in fact])
            if pairs is not None:
                return widened_pairs(pairs, store)
    return None


def widened_pairs(pairs, store):
    """The pairs, and for each unknown of the store that they do not have the unknown itself."""
    table = dict(pairs)
    return tuple([(name, table.get(name, name)) for name in unknowns(store)])


def is_folding(store, value):
    """Whether any value is a folding of the store."""
    return is_lead(store, store, value) and len(renamed(store, value)) < len(store)


def core(store):
    """The plain store of the core to which foldings of the store lead."""
    pairs = folding(store)
    while pairs is not None:
        store = renamed(store, pairs)
        pairs = folding(store)
    return plain(store)


def blocks(store):
    """The blocks of the store, each an ascending tuple of unknowns, ascending."""
    return tuple(sorted([unknowns(knot) for knot in knots(store) if unknowns(knot)]))
