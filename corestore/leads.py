"""Leads of a store into another one."""

from corestore.stores import fact_by, is_open, is_pair, knots, plain, unknowns


def lead(one, other):
    """Any lead of one into other; None if there is none."""
    table = {}
    # Knots have no unknown in common: none of them can spoil what was found for another one.
    for knot in knots(one):
        table = widened(table, choices_for(knot, other, table))
        if table is None:
            return None
    return tuple(sorted(table.items()))


def widened(table, choices):
    """The table, widened so that it leads each fact to one of its goals; None if there is no way.

    The choices are pairs of a fact or an atom and the list of its goals that fit the table.
    """
    if not choices:
        return table
    # The fact with the fewest goals goes first: a fact without any ends the search at once.
    fact, row = min(choices, key=lambda choice: len(choice[1]))
    for goal in row:
        wider = with_goal(table, fact, goal)
        found = widened(wider, choices_left(choices, fact, wider))
        if found is not None:
            return found
    return None


def all_widened(table, choices):
    """All tables that come by widening the table so that it leads each fact to one of its goals."""
    if not choices:
        return [table]
    fact, row = min(choices, key=lambda choice: len(choice[1]))
    found = []
    for goal in row:
        wider = with_goal(table, fact, goal)
        found.extend(all_widened(wider, choices_left(choices, fact, wider)))
    return found


def choices_left(choices, fact, table):
    """The choices for the other facts, with those of their goals that fit the table."""
    return [(later, goals(later, aims, table)) for later, aims in choices if later != fact]


def choices_for(facts, others, table):
    """For each of the facts or atoms a choice: the fact, and its goals among the others beside the table."""
    return [(fact, goals(fact, others, table)) for fact in facts]


def goals(fact, others, table):
    """Those of the other facts to which the fact may lead beside the table."""
    return [goal for goal in others if with_goal(table, fact, goal) is not None]


def with_goal(table, fact, goal):
    """The table with what leads the fact to the goal; None if that does not fit."""
    if fact[0] != goal[0] or len(fact) != len(goal):
        return None
    wider = dict(table)
    for part, aim in zip(fact[1:], goal[1:]):
        if part not in wider and is_open(part):
            wider[part] = aim
        if wider.get(part, part) != aim:
            return None
    return wider


def is_lead(one, other, value):
    """Whether any value is a lead of one into other."""
    if not isinstance(value, tuple) or not all([is_pair(pair) for pair in value]):
        return False
    if tuple([pair[0] for pair in value]) != unknowns(one):
        return False
    table = dict(value)
    return all([fact_by(fact, table) in other for fact in one])


def same(one, other):
    """Whether the stores are the same but for the names of their unknowns."""
    return plain(one) == plain(other)
