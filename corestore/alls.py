"""Books compared for all sources at once."""

from corestore.books import all_atoms, constants, heads, is_book, stand_ins, variables, widths
from corestore.handing import came, handed, settled
from corestore.right import is_there, lacking
from corestore.stores import fact_by, store_by, store_of


def follows(book, rule):
    """Whether for every source each store that is right for the book keeps the rule."""
    return refuted(book, rule) is None


def refuted(book, rule):
    """The body of the rule, of which facts can be made that show that the rule does not follow; None if it does.

    Its variables stand for constants that are unlike each other and all others.
    """
    body, head = rule
    rules, keys = book
    # The atoms of the body themselves are handed over: variables as values are unlike all that the book names, and
    # more facts in a source only put more into the right stores.
    store, table = settled(came(rules, store_of(body)), keys)
    if store is None:
        return None
    if any([name in table for name in variables(body)]):
        # No store is right for facts in which these values are unlike: the rule is asked for with equal ones.
        return refuted(book, (atoms_by(body, table), atoms_by(head, table)))
    if is_there(head, [(name, name) for name in variables(body)], store):
        return None
    return body


def atoms_by(atoms, table):
    """The atoms with each term that the table has replaced."""
    return tuple([fact_by(atom, table) for atom in atoms])


def same_on(one, other, source):
    """Whether just the same stores are right for the source by one book and by the other."""
    return serves(one, other, source) and serves(other, one, source)


def serves(one, other, source):
    """Whether each store that is right for one book and the source is right for the other book, too."""
    store = handed(one, source)
    if store is None:
        return True
    # What the rules call for is in all right stores if it is in the one that leads into all of them. But keys can be
    # broken by facts that no rule calls for.
    return keys_follow(one, other) and all([lacking(rule, source, store) is None for rule in other[0]])


def parting(one, other):
    """Any source for which not the same stores are right by both books; None if there is none."""
    if not keys_follow(one, other) or not keys_follow(other, one):
        return ()
    # A constant that a book names could make its rules call for more.
    taken = constants(all_atoms(one[0] + other[0]))
    for book, rules in ((one, other[0]), (other, one[0])):
        for rule in rules:
            body = refuted(book, rule)
            if body is not None:
                return store_by(body, stand_ins(body, taken))
    return None


def key_follows(book, key):
    """Whether each store that keeps all keys of the book keeps the key."""
    return key_holds(book[1], key, widths(heads(book[0])))


def keys_follow(one, other):
    """Whether each store that keeps all keys of one book keeps those of the other."""
    table = widths(heads(other[0]))
    return all([key_holds(one[1], key, table) for key in other[1]])


def key_holds(keys, key, table):
    """Whether the key has all columns of its relation, or all columns of one of the keys with its relation."""
    relation, columns = key
    rows = [given for name, given in keys if name == relation]
    return len(columns) == table[relation] or any([has_all(columns, row) for row in rows])


def has_all(columns, row):
    """Whether all of the row are columns."""
    return all([column in columns for column in row])


def shortest(book):
    """The book that is left if keys, then rules, are left out one by one that follow from what is left."""
    rules, keys = book
    keys = needed_keys(rules, keys)
    return needed_rules(rules, keys), keys


def needed_keys(rules, keys):
    """The keys that are left if each is left out that follows from the others left."""
    at = 0
    while at < len(keys):
        less = keys[:at] + keys[at + 1:]
        if key_follows((rules, less), keys[at]):
            keys = less
        else:
            at += 1
    return keys


def needed_rules(rules, keys):
    """The rules that are left if each is left out that follows from the others left and the keys, if a book is left."""
    at = 0
    while at < len(rules):
        less = rules[:at] + rules[at + 1:]
        if is_book((less, keys)) and follows((less, keys), rules[at]):
            rules = less
        else:
            at += 1
    return rules
