"""Texts of stores, and what is common to all texts."""

from corestore.errors import BadText
from corestore.stores import is_store, is_value, is_word, unknowns

MOST_FACTS = 30
MOST_UNKNOWNS = 5
MOST_VALUES = 4


def store_text(store):
    """The text of the store: a text line for each fact."""
    return "".join([" ".join(fact) + "\n" for fact in store])


def read_store(text):
    """The store with the text."""
    lines = text_lines(text)
    store = ()
    for number, line in enumerate(lines):
        words = tuple(line.split(" "))
        fault = fact_fault(store, words)
        if fault is not None:
            raise BadText(number, fault)
        store = store + (words,)
    check_end(text, lines)
    return store


def text_lines(text):
    """The text lines of the text, also the last one if no line feed stands behind it."""
    lines = text.split("\n")
    return lines[:-1] if lines[-1] == "" else lines


def check_end(text, lines):
    """Raises an error if no line feed stands behind the last one of the text lines."""
    if len(lines) > 0 and not text.endswith("\n"):
        raise BadText(len(lines), 0)


def fact_fault(store, words):
    """The number of the first word that cannot stand in the fact behind the store; None if there is none."""
    if not is_word(words[0]):
        return 0
    for at, word in enumerate(words[1:], start=1):
        if at > MOST_VALUES or not is_value(word):
            return at
    if len(words) == 1:
        return 1
    return None if may_be_read(store + (words,)) else 0


def may_be_read(facts):
    """Whether the facts are a store within the limits of what is read."""
    return is_store(facts) and len(facts) <= MOST_FACTS and len(unknowns(facts)) <= MOST_UNKNOWNS
