"""Which values are rules, books and sources of a book."""

from corestore.stores import LETTERS, is_pair, is_store, is_variable, is_word, unknowns


def is_term(value):
    """Whether any value is a variable or a constant."""
    return is_variable(value) or is_word(value)


def is_atom(value):
    """Whether any value is an atom."""
    if not isinstance(value, tuple) or not 2 <= len(value) <= 5:
        return False
    return is_word(value[0]) and all([is_term(term) for term in value[1:]])


def is_atoms(value, most):
    """Whether any value is a tuple of atoms: at least one and at most that many."""
    if not isinstance(value, tuple) or not 1 <= len(value) <= most:
        return False
    return all([is_atom(atom) for atom in value])


def variables(atoms):
    """The variables of the atoms, ascending."""
    return sorted({term for atom in atoms for term in atom[1:] if is_variable(term)})


def relations(atoms):
    """The relations of the atoms or facts, ascending."""
    return sorted({atom[0] for atom in atoms})


def even(atoms):
    """Whether atoms of one relation have equally many terms."""
    return len(relations(atoms)) == len({(atom[0], len(atom)) for atom in atoms})


def apart(some, others):
    """Whether the atoms have no relation in common."""
    return not any([relation in relations(others) for relation in relations(some)])


def is_rule(value):
    """Whether any value is a rule."""
    if not is_pair(value) or not all([is_atoms(atoms, 3) for atoms in value]):
        return False
    body, head = value
    few = len(variables(body)) <= 3 and len(variables(body + head)) <= 5
    return few and even(body + head) and apart(body, head)


def bodies(rules):
    """The atoms of the bodies of the rules."""
    return tuple([atom for body, _ in rules for atom in body])


def heads(rules):
    """The atoms of the heads of the rules."""
    return tuple([atom for _, head in rules for atom in head])


def all_atoms(rules):
    """The atoms of the rules."""
    return bodies(rules) + heads(rules)


def constants(atoms):
    """The constants of the atoms, as often as they stand there."""
    return [term for atom in atoms for term in atom[1:] if is_word(term)]


def stand_ins(atoms, taken):
    """A table that has for each variable of the atoms a constant of its own that is not taken."""
    fresh = [one + other for one in LETTERS for other in LETTERS if one + other not in taken]
    return dict(zip(variables(atoms), fresh))


def is_book(value):
    """Whether any value is a book."""
    if not is_pair(value) or not all([isinstance(part, tuple) for part in value]):
        return False
    rules, keys = value
    if not 1 <= len(rules) <= 4 or len(keys) > 3 or not all([is_rule(rule) for rule in rules]):
        return False
    if not even(all_atoms(rules)) or not apart(bodies(rules), heads(rules)):
        return False
    return all([is_key(key, widths(heads(rules))) for key in keys])


def widths(atoms):
    """For each relation of the atoms the number of its terms."""
    return {atom[0]: len(atom) - 1 for atom in atoms}


def is_key(value, table):
    """Whether any value is a key of one of the relations for which the table has the number of terms."""
    if not is_pair(value) or not is_word(value[0]) or value[0] not in table:
        return False
    relation, columns = value
    if not isinstance(columns, tuple) or not 1 <= len(columns) <= 4:
        return False
    if not all([is_integer(column) and 0 <= column < table[relation] for column in columns]):
        return False
    return all([column < then for column, then in zip(columns, columns[1:])])


def is_integer(value):
    """Whether any value is an integer: True and False are none."""
    return isinstance(value, int) and not isinstance(value, bool)


def is_source(book, value):
    """Whether any value is a source of the book, of whatever size."""
    if not is_store(value) or len(unknowns(value)) > 0:
        return False
    read, made = bodies(book[0]), heads(book[0])
    # Facts and atoms are built alike: what holds of the terms of atoms is asked of the values of facts.
    looked_at = tuple([fact for fact in value if fact[0] in relations(read)])
    return apart(value, made) and even(read + looked_at)
