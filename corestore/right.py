"""Whether a store is right for a book and a source, and what shows that it is not."""

from corestore.leads import all_widened, choices_for, widened


def is_right(book, source, store):
    """Whether the store is right for the book and the source."""
    return broken(book, source, store) is None


def broken(book, source, store):
    """What shows first that the store is not right: a rule, otherwise a key; None if it is right."""
    rules, keys = book
    for number, rule in enumerate(rules):
        pairs = lacking(rule, source, store)
        if pairs is not None:
            return "rule", number, pairs
    for number, key in enumerate(keys):
        facts = unlike(key, store)
        if facts is not None:
            return "key", number, facts[0], facts[1]
    return None


def lacking(rule, source, store):
    """The first assignment that shows that the store does not keep the rule; None if it does."""
    body, head = rule
    for pairs in assignments(body, source):
        if not is_there(head, pairs, store):
            return pairs
    return None


def assignments(atoms, facts):
    """All assignments by which the atoms become some of the facts, ascending."""
    tables = all_widened({}, choices_for(atoms, facts, {}))
    return sorted({tuple(sorted(table.items())) for table in tables})


def is_there(atoms, pairs, store):
    """Whether the variables that the pairs do not have can be given values so that the atoms become facts."""
    table = dict(pairs)
    return widened(table, choices_for(atoms, store, table)) is not None


def unlike(key, store):
    """The first two facts that show that the store does not keep the key; None if it does."""
    relation, columns = key
    groups = {}
    for fact in store:
        if fact[0] == relation:
            mark = tuple([fact[column + 1] for column in columns])
            groups[mark] = groups.get(mark, ()) + (fact,)
    # The store is ascending: the first group of several begins with the first fact that has a fellow.
    for group in list(groups.values()):
        if len(group) > 1:
            return group[0], group[1]
    return None
