"""What several test files need: stores to try, and slow answers that follow the document word by word."""

import itertools
import random

S = (("has", "?3", "ann"), ("has", "?7", "ann"), ("in", "?3", "rome"))

WIDTHS = {"at": 1, "by": 2, "has": 2, "in": 3, "to": 4}


def numbered(many):
    """The names "?1", "?2", .. up to a number."""
    return [f"?{number + 1}" for number in range(many)]


def stand_in(store):
    """The unknowns of a store, by their first sign."""
    return sorted({value for fact in store for value in fact[1:] if value[0] == "?"})


def swapped(store, table):
    """The store with its values replaced by a dict."""
    facts = {(fact[0], *[table.get(value, value) for value in fact[1:]]) for fact in store}
    return tuple(sorted(facts))


def some_store(chance, names, constants, facts, relations=tuple(WIDTHS)):
    """A store of these unknowns and constants with that many facts, or fewer if there are not as many."""
    values = list(names) + list(constants)
    found = set()
    for _ in range(facts * 20):
        if len(found) < facts:
            relation = chance.choice(relations)
            found.add((relation, *[chance.choice(values) for _ in range(WIDTHS[relation])]))
    return tuple(sorted(found))


def chance(seed):
    """A fixed row of numbers, the same in each run."""
    return random.Random(seed)


def slow_plain(store):
    """plain, by trying all orders of the names."""
    old = stand_in(store)
    return min(swapped(store, dict(zip(old, new))) for new in itertools.permutations(numbered(len(old))))


def slow_leads(one, other):
    """All leads of one into other, by trying all values of other for each unknown of one."""
    old = stand_in(one)
    values = sorted({value for fact in other for value in fact[1:]})
    tried = [tuple(zip(old, row)) for row in itertools.product(values, repeat=len(old))]
    return [pairs for pairs in tried if set(swapped(one, dict(pairs))) <= set(other)]


def slow_same(one, other):
    """same, by trying all ways to name the unknowns of one like those of other."""
    old, new = stand_in(one), stand_in(other)
    if len(old) != len(new):
        return False
    return any(swapped(one, dict(zip(old, row))) == other for row in itertools.permutations(new))


ODD_VALUES = (
    None, True, False, 0, 1, -7, 10 ** 59, "", "?", "?1", "ann", "\n", "a b", (), [], ((),), [[]], [()], ([],),
    ("at",), ("at", "ann"), ["at", "ann"], (("at",),), (("at", 1),), ((1, "ann"),), ("at", ("ann",)),
    (None,), (True,), ((True, False),), [("at", "ann")], (["at", "ann"],), (("at", ["ann"]),), (("at", ("ann",)),),
    ((("at", "ann"),),), (("at", None),), ((None, "ann"),), (("at", True),), "at ann", ("?1", "ann"),
)
