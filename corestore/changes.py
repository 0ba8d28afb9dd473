"""What single facts of a source do to what comes of it."""

from corestore.handing import outcome
from corestore.questions import sure
from corestore.stores import store_of, without


def needless(book, source):
    """The facts of the source without each of which alone the same comes of it, ascending."""
    whole = outcome(book, source)
    return tuple([fact for fact in source if outcome(book, without(source, fact)) == whole])


def fewest(book, source):
    """The source that is left if its facts are left out one by one without which the same comes of it."""
    whole = outcome(book, source)
    left = source
    for fact in source:
        less = without(left, fact)
        if outcome(book, less) == whole:
            left = less
    return left


def news(book, source, question, fact):
    """The sure answers that the fact in the source brings, and those that it takes, which are none."""
    after = sure(book, store_of(source + (fact,)), question)
    before = sure(book, without(source, fact), question)
    # Each store that is right with the fact is right without it: what was sure stays sure.
    return tuple([row for row in after if row not in before]), ()
