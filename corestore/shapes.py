"""Objects that stand for the cores of stores."""

from corestore.cores import core
from corestore.leads import lead
from corestore.questions import answers
from corestore.stores import unknowns
from corestore.sums import beside


class Shape:
    """The core of a store."""

    def __init__(self, store):
        self._store = core(store)

    @property
    def store(self):
        """The core."""
        return self._store

    def leads(self, other):
        """Whether the core leads into that of the other object."""
        return lead(self._store, other._store) is not None

    def answers(self, question):
        """All answers to the question in the core."""
        return answers(question, self._store)

    def __or__(self, other):
        return Shape(beside(self._store, other._store))

    def __eq__(self, other):
        return isinstance(other, Shape) and self._store == other._store

    def __ne__(self, other):
        return not self == other

    def __contains__(self, value):
        return value in self._store and len(unknowns((value,))) == 0

    def __len__(self):
        return len(self._store)

    def __iter__(self):
        return iter(self._store)
