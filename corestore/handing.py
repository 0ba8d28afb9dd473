"""Handing a source over by a book: whether a store is right, and the least one."""

from corestore.books import variables
from corestore.cores import core
from corestore.errors import Clash
from corestore.right import assignments, unlike
from corestore.stores import fact_by, is_word, store_by, store_of


def has_right(book, source):
    """Whether a store is right for the book and the source."""
    return handed(book, source) is not None


def least(book, source):
    """The plain store of the core of the right stores that lead into all right stores."""
    store = outcome(book, source)
    if store is None:
        raise Clash()
    return store


def outcome(book, source):
    """The least store; None if no store is right."""
    store = handed(book, source)
    return None if store is None else core(store)


def handed(book, source):
    """A right store that leads into all right stores; None if no store is right."""
    rules, keys = book
    return settled(came(rules, source), keys)[0]


def came(rules, source, many=0):
    """The store that the rules call for, with a new unknown for each invented variable each time.

    The new unknowns are numbered behind so many that the source has.
    """
    facts = []
    for body, head in rules:
        for pairs in assignments(body, source):
            table = dict(pairs)
            for name in variables(head):
                # The pairs have the variables of the body: what they do not have is invented.
                if name not in table:
                    many += 1
                    table[name] = f"?{many}"
            facts.extend([fact_by(atom, table) for atom in head])
    return store_of(facts)


def settled(store, keys):
    """The store with those values made one that the keys make one, and a table of what was replaced by what.

    The store is None if the keys make two constants one.
    """
    table = {}
    pair = made_one(store, keys)
    while pair is not None:
        less, more = pair
        if is_word(less):
            return None, table
        table = dict([(name, more if value == less else value) for name, value in table.items()] + [(less, more)])
        store = store_by(store, table)
        pair = made_one(store, keys)
    return store, table


def made_one(store, keys):
    """Two unlike values, in order, that a key makes one; None if the store keeps the keys."""
    for key in keys:
        facts = unlike(key, store)
        if facts is not None:
            pairs = [(one, other) for one, other in zip(facts[0], facts[1]) if one != other]
            # The greater value stays: unknowns come ahead of variables, and these of constants.
            return min(pairs[0]), max(pairs[0])
    return None
