"""The least store into which several stores lead."""

from corestore.cores import core
from corestore.stores import store_by, store_of, unknowns


def beside(one, other):
    """The plain core of the facts of both stores, their unknowns kept apart."""
    return beside_all((one, other))


def beside_all(stores):
    """The plain core of the facts of all stores, their unknowns kept apart."""
    facts = []
    many = 0
    for store in stores:
        names = unknowns(store)
        facts.extend(numbered_from(store, names, many))
        many = many + len(names)
    return core(store_of(facts))


def numbered_from(store, names, many):
    """The store with its unknowns, which are the names, numbered behind so many others."""
    return store_by(store, {name: f"?{many + at}" for at, name in enumerate(names, start=1)})
