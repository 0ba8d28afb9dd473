"""An editor of a source of a book."""

from corestore.books import is_source
from corestore.errors import BadFact, BadSource, NoFact, NothingDone
from corestore.handing import has_right, least, outcome
from corestore.questions import sure
from corestore.stores import is_fact, store_of, without


class Handing:
    """A book and a source of it, into which facts are put and from which they are taken."""

    def __init__(self, book, *, source=()):
        if not is_source(book, source):
            raise BadSource()
        self._book = book
        self._source = source
        # The sources ahead of each put and take that is not taken back yet.
        self._past = []

    @property
    def book(self):
        """The book."""
        return self._book

    @property
    def source(self):
        """The source as it is."""
        return self._source

    def has_right(self):
        """Whether a store is right for the source as it is."""
        return has_right(self._book, self._source)

    def least(self):
        """The least store for the source as it is."""
        return least(self._book, self._source)

    def sure(self, question):
        """The sure answers for the source as it is."""
        return sure(self._book, self._source, question)

    def put(self, fact):
        """Puts the fact into the source; returns whether something else comes of it than before."""
        if not is_fact(fact):
            raise BadFact(fact)
        source = store_of(self._source + (fact,))
        if not is_source(self._book, source):
            raise BadFact(fact)
        return self._change(source)

    def take(self, fact):
        """Takes the fact from the source; returns whether something else comes of it than before."""
        if fact not in self._source:
            raise NoFact(fact)
        return self._change(without(self._source, fact))

    def _change(self, source):
        """Goes on with the source; returns whether something else comes of it than before."""
        before = outcome(self._book, self._source)
        self._past.append(self._source)
        self._source = source
        return outcome(self._book, source) != before

    def undo(self):
        """Takes the last put or take back; returns how many are left."""
        if len(self._past) == 0:
            raise NothingDone()
        self._source = self._past.pop()
        return len(self._past)

    def twin(self):
        """A new Handing with the same book, source and changes, which goes on by itself."""
        other = Handing(self._book, source=self._source)
        other._past = list(self._past)
        return other

    def __len__(self):
        return len(self._past)

    def __eq__(self, other):
        return isinstance(other, Handing) and self._book == other._book and self._source == other._source
