"""Two books one behind another: what comes of a source by both."""

from corestore.books import all_atoms, apart, even, heads
from corestore.cores import core
from corestore.handing import came, has_right, least
from corestore.stores import unknowns


def is_behind(first, second):
    """Whether the books are one behind another."""
    before, after = all_atoms(first[0]), all_atoms(second[0])
    return apart(heads(second[0]), before) and even(before + after) and len(second[1]) == 0


def through(first, second, source):
    """The plain core of the right stores behind the books and the source that lead into all of these."""
    middle = least(first, source)
    # The middle store is plain: its unknowns have the numbers up to how many they are.
    return core(came(second[0], middle, len(unknowns(middle))))


def has_through(first, second, source):
    """Whether a store is right behind the books and the source."""
    # The second book has no keys: whatever store it is given, some store is right for it.
    return has_right(first, source)
