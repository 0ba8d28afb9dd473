"""Texts of books."""

from corestore.books import heads, is_book, is_term, widths
from corestore.errors import BadText
from corestore.stores import is_word
from corestore.texts import check_end, text_lines

MOST_ATOMS = 3
MOST_TERMS = 4
MOST_KEYS = 3
COLUMNS = "0123"


def book_text(book):
    """The text of the book: a text line for each rule, then one for each key."""
    rules, keys = book
    lines = [atoms_text(body) + " : " + atoms_text(head) for body, head in rules] + [key_text(key) for key in keys]
    return "".join([line + "\n" for line in lines])


def atoms_text(atoms):
    """The words of the atoms of a body or a head."""
    return " , ".join([" ".join(atom) for atom in atoms])


def key_text(key):
    """The words of the text line of the key."""
    relation, columns = key
    return " ".join(["!", relation] + [str(column) for column in columns])


def read_book(text):
    """The book with the text."""
    lines = text_lines(text)
    if len(lines) == 0:
        raise BadText(0, 0)
    rules, keys = (), ()
    for number, line in enumerate(lines):
        words = line.split(" ")
        is_key = words[0] == "!"
        fault = key_fault(rules, keys, words) if is_key else rule_fault(rules, keys, line)
        if fault is not None:
            raise BadText(number, fault)
        if is_key:
            keys = keys + (key_of(words),)
        else:
            rules = rules + (rule_of(line),)
    check_end(text, lines)
    return rules, keys


def rule_fault(rules, keys, line):
    """The number of the first word that cannot stand in the text line of a rule behind these; None if there is none."""
    if len(keys) > 0:
        return 0
    fault = atoms_fault(line.split(" "), 2)
    if fault is None and not is_book((rules + (rule_of(line),), ())):
        return 0
    return fault


def atoms_fault(words, sides):
    """The number of the first word that cannot stand in so many rows of atoms; None if there is none.

    Between two rows stands ":". If something is missing, the fault is behind the last word.
    """
    side = atom = 1
    # How many words of this atom are there: its relation is the first one.
    size = 0
    for at, word in enumerate(words):
        if size == 0 and is_word(word):
            size = 1
        elif 1 <= size <= MOST_TERMS and is_term(word):
            size += 1
        elif size > 1 and word == "," and atom < MOST_ATOMS:
            atom, size = atom + 1, 0
        elif size > 1 and word == ":" and side < sides:
            side, atom, size = side + 1, 1, 0
        else:
            return at
    return None if size > 1 and side == sides else len(words)


def rule_of(line):
    """The rule of a text line whose words are right."""
    body, head = line.split(" : ")
    return atoms_of(body), atoms_of(head)


def atoms_of(text):
    """The atoms of a body or a head whose words are right."""
    return tuple([tuple(words.split(" ")) for words in text.split(" , ")])


def key_fault(rules, keys, words):
    """The number of the first word that cannot stand in the text line of a key behind these; None if there is none."""
    table = widths(heads(rules))
    if len(keys) == MOST_KEYS:
        return 0
    if len(words) == 1 or words[1] not in table:
        return 1
    left = list(COLUMNS[:table[words[1]]])
    for at, word in enumerate(words[2:], start=2):
        if word not in left:
            return at
        left = [column for column in left if column > word]
    return 2 if len(words) == 2 else None


def key_of(words):
    """The key of a text line whose words are right."""
    return words[1], tuple([int(word) for word in words[2:]])
