"""Answers to questions: in a store, and surely in all right stores."""

from corestore.books import even, variables
from corestore.handing import least
from corestore.right import assignments
from corestore.stores import is_unknown, knots


MOST_OUT = 3
MOST_VARIABLES = 4


def is_question(out, atoms):
    """Whether the words of out and the atoms, of which there are not too many, are a question."""
    names = variables(atoms)
    few = len(out) <= MOST_OUT and len(names) <= MOST_VARIABLES
    return few and even(atoms) and all([word in names for word in out])


def answers(question, store):
    """All answers to the question in the store, ascending."""
    out, atoms = question
    rows = [()]
    # Groups of atoms without a common variable are asked one by one: the assignments of all of them could be too many.
    for group in knots(atoms):
        told = told_of(out, group, store)
        rows = [row + pairs for row in rows for pairs in told]
    return tuple(sorted({tuple([dict(row)[name] for name in out]) for row in rows}))


def told_of(out, atoms, store):
    """What the assignments of the atoms tell of the variables of out, without those that give one an unknown."""
    rows = sorted({tuple([pair for pair in pairs if pair[0] in out]) for pairs in assignments(atoms, store)})
    return [row for row in rows if not any([is_unknown(value) for _, value in row])]


def sure(book, source, question):
    """The answers that there are in each right store, ascending."""
    return answers(question, least(book, source))
