"""What several test files need: stores to try, and slow answers that follow the document word by word."""

import itertools
import random

S = (("has", "?3", "ann"), ("has", "?7", "ann"), ("in", "?3", "rome"))

WIDTHS = {"at": 1, "by": 2, "has": 2, "in": 3, "to": 4}


def numbered(many):
    """The names "?1", "?2", .. up to a number."""
    return [f"?{number + 1}" for number in range(many)]


def stand_in(store):
    """The unknowns of a store, by their first sign."""
    return sorted({value for fact in store for value in fact[1:] if value[0] == "?"})


def swapped(store, table):
    """The store with its values replaced by a dict."""
    facts = {(fact[0], *[table.get(value, value) for value in fact[1:]]) for fact in store}
    return tuple(sorted(facts))


def some_store(chance, names, constants, facts, relations=tuple(WIDTHS)):
    """A store of these unknowns and constants with that many facts, or fewer if there are not as many."""
    values = list(names) + list(constants)
    found = set()
    for _ in range(facts * 20):
        if len(found) < facts:
            relation = chance.choice(relations)
            found.add((relation, *[chance.choice(values) for _ in range(WIDTHS[relation])]))
    return tuple(sorted(found))


def chance(seed):
    """A fixed row of numbers, the same in each run."""
    return random.Random(seed)


def slow_plain(store):
    """plain, by trying all orders of the names."""
    old = stand_in(store)
    return min(swapped(store, dict(zip(old, new))) for new in itertools.permutations(numbered(len(old))))


def slow_leads(one, other):
    """All leads of one into other, by trying all values of other for each unknown of one."""
    old = stand_in(one)
    values = sorted({value for fact in other for value in fact[1:]})
    tried = [tuple(zip(old, row)) for row in itertools.product(values, repeat=len(old))]
    return [pairs for pairs in tried if set(swapped(one, dict(pairs))) <= set(other)]


def slow_same(one, other):
    """same, by trying all ways to name the unknowns of one like those of other."""
    old, new = stand_in(one), stand_in(other)
    if len(old) != len(new):
        return False
    return any(swapped(one, dict(zip(old, row))) == other for row in itertools.permutations(new))


ODD_VALUES = (
    None, True, False, 0, 1, -7, 10 ** 59, "", "?", "?1", "ann", "\n", "a b", (), [], ((),), [[]], [()], ([],),
    ("at",), ("at", "ann"), ["at", "ann"], (("at",),), (("at", 1),), ((1, "ann"),), ("at", ("ann",)),
    (None,), (True,), ((True, False),), [("at", "ann")], (["at", "ann"],), (("at", ["ann"]),), (("at", ("ann",)),),
    ((("at", "ann"),),), (("at", None),), ((None, "ann"),), (("at", True),), "at ann", ("?1", "ann"),
)

R = ((("emp", "A", "B"),), (("has", "C", "A"), ("in", "C", "B")))
B = ((R,), ())


def slow_core(store):
    """core, by trying all leads of the store into itself, until none leaves fewer facts."""
    for pairs in slow_leads(store, store):
        less = swapped(store, dict(pairs))
        if len(less) < len(store):
            return slow_core(less)
    return slow_plain(store)


def letters(atoms):
    """The variables of some atoms."""
    return sorted({term for atom in atoms for term in atom[1:] if term.isupper()})


def slow_assignments(atoms, facts):
    """All assignments by which the atoms become facts, ascending, by trying all values for each variable."""
    names = letters(atoms)
    values = sorted({value for fact in facts for value in fact[1:]})
    tried = [tuple(zip(names, row)) for row in itertools.product(values, repeat=len(names))]
    return sorted(pairs for pairs in tried if set(swapped(atoms, dict(pairs))) <= set(facts))


def slow_is_there(head, pairs, store):
    """Whether values for the other variables of the head make its atoms facts of the store."""
    return bool(slow_assignments(swapped(head, dict(pairs)), store))


def slow_broken(book, source, store):
    """broken, word by word."""
    for number, (body, head) in enumerate(book[0]):
        for pairs in slow_assignments(body, source):
            if not slow_is_there(head, pairs, store):
                return "rule", number, pairs
    for number, (relation, columns) in enumerate(book[1]):
        for fact, other in itertools.combinations(store, 2):
            if fact[0] == other[0] == relation and all(fact[column + 1] == other[column + 1] for column in columns):
                return "key", number, fact, other
    return None


def slow_handed(book, source):
    """A right store that leads into all right stores, or None; the values are joined in sets."""
    facts, many = [], itertools.count(100)
    for body, head in reversed(book[0]):
        for pairs in reversed(slow_assignments(body, source)):
            new = {name: f"?{next(many)}" for name in letters(head) if name not in letters(body)}
            facts.extend(swapped(head, {**new, **dict(pairs)}))
    while True:
        facts = sorted(set(facts), reverse=True)
        shown = slow_broken(((), book[1]), (), tuple(facts))
        if shown is None:
            return tuple(sorted(facts))
        one, other = next(pair for pair in zip(shown[2], shown[3]) if pair[0] != pair[1])
        if "?" not in one + other:
            return None
        old, new = (one, other) if "?" in one else (other, one)
        facts = swapped(facts, {old: new})


BODY_WIDTHS = {"p": 1, "q": 2, "s": 3}
HEAD_WIDTHS = {"u": 1, "v": 2, "w": 3}


def some_atoms(numbers, table, terms, most):
    """Some atoms of the relations of a table of widths, with some of the terms."""
    names = [numbers.choice(sorted(table)) for _ in range(numbers.randrange(1, most + 1))]
    return tuple((name, *[numbers.choice(terms) for _ in range(table[name])]) for name in names)


def some_rule(numbers, constants=("a", "b"), most=2):
    """Some rule from BODY_WIDTHS to HEAD_WIDTHS."""
    body = some_atoms(numbers, BODY_WIDTHS, ["A", "B", "C", numbers.choice(constants)], most)
    terms = [*letters(body), *letters(body), *"DE"[:5 - len(letters(body))], numbers.choice(constants)]
    return body, some_atoms(numbers, HEAD_WIDTHS, terms, 2)


def some_book(numbers, rules=2, keys=2, constants=("a", "b")):
    """Some book with at most that many rules and keys; keys seldom have all columns."""
    made = tuple(some_rule(numbers, constants) for _ in range(numbers.randrange(1, rules + 1)))
    names = sorted({atom[0] for _, head in made for atom in head})
    told = []
    for _ in range(numbers.randrange(keys + 1)):
        name = numbers.choice(names)
        columns = range(HEAD_WIDTHS[name])
        most = max(1, len(columns) - (numbers.randrange(4) > 0))
        told.append((name, tuple(sorted(numbers.sample(columns, numbers.randrange(1, most + 1))))))
    return made, tuple(told)


def some_facts(numbers, most, constants, table):
    """Some facts of the relations of a table of widths."""
    names = [numbers.choice(sorted(table)) for _ in range(numbers.randrange(most + 1))]
    return tuple(sorted({(name, *[numbers.choice(constants) for _ in range(table[name])]) for name in names}))


def some_source(numbers, book, times=3, constants=("a", "b", "c")):
    """Some source of a book made of some_rule, in which bodies of its rules become facts."""
    facts = set(some_facts(numbers, 1, constants, BODY_WIDTHS))
    for _ in range(numbers.randrange(times + 1)):
        body = numbers.choice(book[0])[0]
        facts.update(swapped(body, {name: numbers.choice(constants) for name in letters(body)}))
    return tuple(sorted(facts))


def rule(body, head):
    """A rule written as two texts: atoms have a comma between them."""
    return tuple(tuple(tuple(words.split()) for words in text.split(", ")) for text in (body, head))


def store(text):
    """A store written as a text."""
    return tuple(sorted(tuple(words.split()) for words in text.split(", ")))


def every_store(table, values):
    """All stores of the relations of a table of widths with these values."""
    facts = [(name, *row) for name in sorted(table) for row in itertools.product(values, repeat=table[name])]
    rows = [itertools.combinations(sorted(facts), many) for many in range(len(facts) + 1)]
    return itertools.chain(*rows)


def ask(out, text):
    """A question written as two texts."""
    return tuple(out.split()), tuple(tuple(words.split()) for words in text.split(", "))


def slow_answers(question, facts):
    """answers, by trying all values for each variable."""
    rows = {tuple(dict(pairs)[name] for name in question[0]) for pairs in slow_assignments(question[1], facts)}
    return tuple(sorted(row for row in rows if "?" not in "".join(row)))


def some_question(numbers):
    """Some question about relations of HEAD_WIDTHS."""
    terms = ["A", "B", "C", "D"][:numbers.randrange(1, 5)] * 2 + ["a"]
    atoms = some_atoms(numbers, HEAD_WIDTHS, terms, 4)
    names = letters(atoms)
    return tuple(numbers.choice(names) for _ in range(numbers.randrange(4)) if names), atoms


ODD_SIGNS = [" ", "\n", "  ", "\n\n", "\r", "\t", "A", "0", "\u00e9", "!", ":", ","]


def spoiled(numbers, text, parts):
    """The text with at most three changes: a part is put in, some signs are taken, or two lines change places."""
    for _ in range(numbers.randrange(4)):
        at = numbers.randrange(len(text) + 1)
        kind = numbers.randrange(4)
        if kind < 2:
            text = text[:at] + numbers.choice(parts) + text[at + kind:]
        elif kind == 2:
            text = text[:at] + text[at + numbers.randrange(1, 4):]
        else:
            lines = text.split("\n")
            lines.insert(numbers.randrange(len(lines)), lines.pop(numbers.randrange(len(lines))))
            text = "\n".join(lines)
    return text
