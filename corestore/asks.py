"""Questions compared for all stores at once."""

from corestore.books import constants, stand_ins, variables
from corestore.leads import choices_for, widened, with_goal
from corestore.stores import fact_by, is_pair, store_by


def within(one, other):
    """Whether in every store each answer to one is an answer to other."""
    return way(one, other) is not None


def way(one, other):
    """Any way of one into other; None if one is not within other."""
    # What stands in out is led like one atom more.
    table = with_goal({}, ("out",) + other[0], ("out",) + one[0])
    if table is not None:
        table = widened(table, choices_for(other[1], one[1], table))
    return None if table is None else tuple(sorted(table.items()))


def is_way(one, other, value):
    """Whether any value is a way of one into other."""
    if not isinstance(value, tuple) or not all([is_pair(pair) for pair in value]):
        return False
    if [pair[0] for pair in value] != variables(other[1]):
        return False
    table = dict(value)
    return fact_by(other[0], table) == one[0] and all([fact_by(atom, table) in one[1] for atom in other[1]])


def telling(one, other):
    """None if one is within other; otherwise a store and an answer to one in it that is none to other."""
    if within(one, other):
        return None
    out, atoms = one
    # A constant of the other question in the place of a variable could make its atoms facts.
    table = stand_ins(atoms, constants(atoms + other[1]))
    return store_by(atoms, table), fact_by(out, table)


def least_question(question):
    """The question that is left if its atoms are left out one by one without which the answers are the same."""
    out, atoms = question
    at = 0
    while at < len(atoms):
        less = atoms[:at] + atoms[at + 1:]
        # There is no such way if a variable of out no longer stands in an atom: it has to lead to itself.
        if within((out, less), (out, atoms)):
            atoms = less
        else:
            at += 1
    return out, atoms
