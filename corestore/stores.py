"""Stores of facts, their unknowns and their plain names."""

LETTERS = "abcdefghijklmnopqrstuvwxyz"
CAPITALS = "ABCDEFGHIJKLMNOPQRSTUVWXYZ"
DIGITS = "0123456789"


def is_word(value):
    """Whether any value is a constant; relations have the same form."""
    if not isinstance(value, str):
        return False
    return 1 <= len(value) <= 8 and all([sign in LETTERS for sign in value])


def is_unknown(value):
    """Whether any value is an unknown."""
    if not isinstance(value, str) or not value.startswith("?"):
        return False
    digits = value[1:]
    return 1 <= len(digits) <= 5 and digits[0] != "0" and all([sign in DIGITS for sign in digits])


def is_variable(value):
    """Whether any value is a variable."""
    return isinstance(value, str) and len(value) == 1 and value in CAPITALS


def is_value(value):
    """Whether any value is a constant or an unknown."""
    return is_word(value) or is_unknown(value)


def is_open(part):
    """Whether a part of a fact or an atom is an unknown or a variable."""
    # Constants alone begin with a small letter.
    return part[0] not in LETTERS


def is_pair(value):
    """Whether any value is a pair."""
    return isinstance(value, tuple) and len(value) == 2


def is_fact(value):
    """Whether any value is a fact."""
    if not isinstance(value, tuple) or not 2 <= len(value) <= 5:
        return False
    return is_word(value[0]) and all([is_value(part) for part in value[1:]])


def is_store(value):
    """Whether any value is a store, of whatever size."""
    if not isinstance(value, tuple) or not all([is_fact(fact) for fact in value]):
        return False
    return all([may_follow(fact, then) for fact, then in zip(value, value[1:])])


def may_follow(fact, then):
    """Whether the fact then may stand right behind the fact in a store."""
    # Facts of one relation stand side by side in a store: comparing neighbours finds each unlike width.
    return fact < then and (fact[0] != then[0] or len(fact) == len(then))


def unknowns(store):
    """The unknowns of the store, ascending."""
    return tuple(sorted({part for fact in store for part in fact[1:] if is_unknown(part)}))


def renamed(store, pairs):
    """The store with each unknown that is the first item of a pair replaced by the second item."""
    return store_by(store, dict(pairs))


def store_of(facts):
    """The store of the facts, which may stand in any order, and more than once."""
    return tuple(sorted(set(facts)))


def without(store, fact):
    """The store less the fact, if it stands there."""
    return tuple([other for other in store if other != fact])


def store_by(store, table):
    """The store whose facts are those of the store, replaced by the table."""
    return store_of([fact_by(fact, table) for fact in store])


def fact_by(fact, table):
    """The fact with each unknown that the table has replaced by what the table has for it."""
    # The relation stays as it is: no relation has the form of an unknown.
    return tuple([table.get(part, part) for part in fact])


def plain(store):
    """The first one of all stores that come by renaming the unknowns one-to-one to "?1", "?2", .."""
    many = len(unknowns(store))
    names = sorted([f"?{number + 1}" for number in range(many)])
    # A state is a start of a renaming, and the facts that it has not put in order yet.
    states = [({}, store)]
    while len(states[0][0]) < many:
        states = next_states(states, names)
    return min([store_by(store, table) for table, _ in states])


def next_states(states, names):
    """The states that come of these by naming a further fact so that it is as small as can be."""
    steps = []
    for table, left in states:
        for fact in left:
            wider = named(table, fact, names)
            steps.append((fact_by(fact, wider), wider, [other for other in left if other != fact]))
    # A greater fact cannot come next in the first store, however the other unknowns are named.
    least = min([step[0] for step in steps])
    return [(table, left) for fact, table, left in steps if fact == least]


def named(table, fact, names):
    """The table with the next names for the unknowns of the fact that it does not have."""
    wider = dict(table)
    for part in fact[1:]:
        if is_unknown(part) and part not in wider:
            wider[part] = names[len(wider)]
    return wider


def knots(store):
    """The facts or atoms in groups: those that have an unknown or a variable in common are in one group."""
    groups = []
    for fact in store:
        near = [row for group in groups if touches(group, fact) for row in group]
        groups = [group for group in groups if not touches(group, fact)] + [near + [fact]]
    return groups


def touches(group, fact):
    """Whether an unknown or a variable of the fact stands in a fact of the group."""
    return any([part in row for row in group for part in fact[1:] if is_open(part)])
