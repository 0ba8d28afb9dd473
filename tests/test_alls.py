import itertools
import unittest

from corestore.alls import follows, key_follows, parting, same_on, shortest
from corestore.books import is_book, is_source
from corestore.right import is_right
from helper import (B, HEAD_WIDTHS, R, chance, every_store, letters, rule, slow_broken, slow_handed, some_atoms,
                    some_book, some_facts, some_source, store, swapped)

NARROW = {"u": 1, "v": 2}


def words(book):
    """The constants of a book."""
    return sorted({term for made in book[0] for atoms in made for atom in atoms for term in atom[1:] if term.islower()})


def every_body(body, values):
    """All sources that come by giving the variables of a body some of the values."""
    names = letters(body)
    return [swapped(body, dict(zip(names, row))) for row in itertools.product(values, repeat=len(names))]


def slow_follows(book, given):
    """follows, by trying all values for the variables of the body: those of the books, and three more."""
    for source in every_body(given[0], words(book) + words(((given,), ())) + ["xx", "yy", "zz"]):
        made = slow_handed(book, source)
        if made is not None and slow_broken(((given,), ()), source, made) is not None:
            return False
    return True


def stores_to_try(book, other, source):
    """Stores one of which shows that book and other do not have the same right stores, if they do not."""
    made = slow_handed(book, source)
    if made is None:
        return []
    found = [made]
    for relation, columns in other[1]:
        width = [len(atom) - 1 for _, head in other[0] for atom in head if atom[0] == relation][0]
        facts = [(relation, *[f"kk{'' if column in columns else end}" for column in range(width)]) for end in "xy"]
        facts = [(fact[0], *[value + "abcd"[at] for at, value in enumerate(fact[1:])]) for fact in facts]
        found.append(tuple(sorted({*made, *facts})))
    return found


def slow_same_on(one, other, source):
    """same_on, by the stores that can show that it is not so."""
    tried = stores_to_try(one, other, source) + stores_to_try(other, one, source)
    return all((slow_broken(one, source, facts) is None) == (slow_broken(other, source, facts) is None)
               for facts in tried)


def narrow_rule(numbers):
    """Some rule whose keys often make values of the source equal."""
    body = some_atoms(numbers, {"p": 1, "q": 2}, ["A", "B", "C", numbers.choice("ABa")], 2)
    terms = letters(body) * 2 + ["a", numbers.choice("abD")]
    return body, some_atoms(numbers, NARROW, terms, 2)


def narrow_book(numbers, rules=3):
    """Some book of such rules."""
    made = tuple(narrow_rule(numbers) for _ in range(numbers.randrange(1, rules + 1)))
    if not any(atom[0] == "v" for _, head in made for atom in head):
        return made, ()
    return made, tuple(("v", (numbers.randrange(2),)) for _ in range(numbers.randrange(3)))


def some_other(numbers, book):
    """A book that is nearly the same: in another order, with a rule or a key more or less, or with another one."""
    rules, keys = list(book[0]), list(book[1])
    numbers.shuffle(rules)
    numbers.shuffle(keys)
    if numbers.randrange(3) == 0 and len(rules) > 1:
        rules.pop()
    if numbers.randrange(3) == 0:
        rules.append(some_variant(numbers, numbers.choice(rules)))
    if numbers.randrange(4) == 0 and keys:
        keys.pop()
    if numbers.randrange(4) == 0 and keys:
        keys.append(numbers.choice(keys))
    there = {atom[0] for _, head in rules for atom in head}
    return tuple(rules), tuple(key for key in keys if key[0] in there)


def some_variant(numbers, given):
    """A rule with some variables replaced, and perhaps with an atom less in the head."""
    names = letters(given[0] + given[1])
    table = {name: numbers.choice(names + ["a"]) if numbers.randrange(4) == 0 else name for name in names}
    body, head = [tuple((atom[0], *[table.get(term, term) for term in atom[1:]]) for atom in atoms) for atoms in given]
    return body, head[numbers.randrange(len(head)):]


class FollowsTest(unittest.TestCase):
    def told(self, book, given, answer):
        self.assertIs(follows(book, given), answer, (book, given))
        self.assertIs(slow_follows(book, given), answer)

    def test_examples(self):
        self.told(B, rule("emp A B", "in D B"), True)
        self.told(B, rule("emp A B", "in A B"), False)

    def test_each_rule_of_the_book(self):
        numbers = chance(51)
        for _ in range(200):
            book = some_book(numbers, 3, 3)
            for given in book[0]:
                self.told(book, given, True)

    def test_atoms_left_out(self):
        self.told(B, rule("emp A B", "has C A"), True)
        self.told(B, rule("emp A B", "in C B"), True)
        self.told((((rule("emp A B", "has C A")), (rule("emp A B", "in C B"))), ()), R, False)
        self.told(((rule("p A, q A B", "u A"),), ()), rule("q A B", "u A"), False)
        self.told(((rule("q A B", "u A"),), ()), rule("p A, q A B", "u A"), True)
        self.told(((rule("q A B", "u A"),), ()), rule("q B A, q A C", "u A, u B"), True)

    def test_variables_made_equal_or_constants(self):
        book = ((rule("q A B", "v A D, v D B"),), ())
        self.told(book, rule("q A A", "v A D, v D A"), True)
        self.told(book, rule("q A A", "v A D, v E A"), True)
        self.told(book, rule("q a B", "v a D, v D B"), True)
        self.told(book, rule("q a b", "v a D, v D b"), True)
        self.told(book, rule("q A B", "v A D, v E B"), True)
        self.told(book, rule("q A B", "v A D, v D D"), False)
        self.told(book, rule("q A B", "v A B"), False)
        self.told(((rule("q A A", "u A"),), ()), rule("q A B", "u A"), False)
        self.told(((rule("q a B", "u B"),), ()), rule("q A B", "u B"), False)
        self.told(((rule("q a B", "u B"),), ()), rule("q a a", "u a"), True)

    def test_two_rules_put_together(self):
        book = ((rule("p A", "u A"), rule("q A B", "v A B")), ())
        self.told(book, rule("p A, q A B", "u A, v A B"), True)
        self.told(book, rule("p A, q A B", "u B, v A B"), False)
        self.told(((rule("p A", "v A D"), rule("p A", "u A")), ()), rule("p A", "v A D, u A"), True)
        self.told(((rule("p A", "v A D"), rule("p A", "u D")), ()), rule("p A", "v A D, u D"), False)

    def test_constants_in_heads(self):
        book = ((rule("p A", "v A a"),), ())
        self.told(book, rule("p A", "v A D"), True)
        self.told(book, rule("p B", "v B a"), True)
        self.told(book, rule("p A", "v A b"), False)
        self.told(((rule("p A", "v A D"),), ()), rule("p A", "v A a"), False)
        self.told(((rule("p a", "u D"),), ()), rule("p a", "u E"), True)
        self.told(((rule("p a", "u D"),), ()), rule("p b", "u E"), False)

    def test_only_because_of_a_key(self):
        rules = (rule("p A", "v A D, u D"), rule("p A", "v A A"))
        self.told((rules, ()), rule("p A", "u A"), False)
        self.told((rules, (("v", (0,)),)), rule("p A", "u A"), True)
        self.told((rules, (("v", (1,)),)), rule("p A", "u A"), False)
        rules = (rule("p A", "v A D, u D"), rule("p A", "v A D, v D A"))
        self.told((rules, (("v", (0,)),)), rule("p A", "u D, v D A"), True)
        self.told((rules, ()), rule("p A", "u D, v D A"), False)

    def test_a_body_that_makes_keys_clash(self):
        book = ((rule("p A", "v A a, v A b"), rule("q A B", "v A B")), (("v", (0,)),))
        self.told(book, rule("p A", "u a"), True)
        self.told(book, rule("p A, q A B", "w A B D"), True)
        self.told(book, rule("q A B", "u a"), False)
        self.told((book[0], ()), rule("p A", "u a"), False)

    def test_bodies_whose_variables_are_made_equal_by_a_key(self):
        book = ((rule("q A B", "v A B"),), (("v", (0,)),))
        # No store is right where B and C are unlike, but some are where they are equal.
        self.told(book, rule("q A B, q A C", "w A B C"), False)
        self.told(book, rule("q A B, q A C", "v A C"), True)
        book = ((rule("q A B", "v A B"), rule("q A B", "w A B B")), (("v", (0,)),))
        self.told(book, rule("q A B, q A C", "w A B C"), True)
        self.told((book[0], ()), rule("q A B, q A C", "w A B C"), False)
        # The same, one value behind another.
        book = ((rule("p A", "v a A"), rule("p A", "u A")), (("v", (0,)),))
        self.told(book, rule("p A, p B", "u A"), True)
        self.told(book, rule("p A, p B", "v A B"), False)
        book = ((rule("p A", "v a A"), rule("p A", "w A A A")), (("v", (0,)),))
        self.told(book, rule("p A, p B", "w A B A"), True)

    def test_bodies_whose_variables_are_made_constants_by_a_key(self):
        book = ((rule("q A B", "v A B, v A a"),), (("v", (0,)),))
        self.told(book, rule("q A B", "v A a"), True)
        self.told(book, rule("q A B", "u a"), False)
        book = ((rule("q A B", "v A B, v A a"), rule("q A a", "u A")), (("v", (0,)),))
        self.told(book, rule("q A B", "u A"), True)
        self.told((book[0], ()), rule("q A B", "u A"), False)
        self.told(book, rule("q A B", "u B"), False)
        book = ((rule("q A B", "v A B, v A a"), rule("q A a", "v A b")), (("v", (0,)),))
        self.told(book, rule("q A B", "u b"), True)
        # One variable is made another one, and both a constant.
        book = ((rule("q A B", "v c A, v c B"), rule("q A A", "w A a A, w A A A")), (("v", (0,)), ("w", (0,))))
        self.told(book, rule("q A B", "w a B A"), True)
        self.told(book, rule("q A B", "v c a"), True)
        self.told(book, rule("q A B", "v A a"), False)

    def test_more_unknowns(self):
        book = (tuple(rule("q A B, q C B", f"{name} A D, {name} D E, {name} E B") for name in ("v", "x", "y", "z")), ())
        self.assertIs(follows(book, rule("q A B, q B A", "v A D, x A D")), False)
        self.assertIs(follows(book, rule("q A B, q B A", "v A D, x A E, y F B")), True)

    def test_all_by_the_words_of_the_document(self):
        numbers = chance(52)
        told = []
        for _ in range(3000):
            book = narrow_book(numbers)
            given = some_variant(numbers, numbers.choice([*book[0], narrow_rule(numbers)]))
            self.told(book, given, slow_follows(book, given))
            told.append((follows(book, given), follows((book[0], ()), given)))
        self.assertGreater(told.count((True, False)), 5)
        self.assertGreater(told.count((True, True)), 200)
        self.assertGreater(told.count((False, False)), 200)


class KeyFollowsTest(unittest.TestCase):
    def told(self, keys, key, answer):
        book = ((rule("p A", "w A B C"), rule("p A", "v A B")), keys)
        self.assertIs(is_book(book), True)
        self.assertIs(key_follows(book, key), answer)

    def test_all_columns_of_the_relation(self):
        self.told((), ("w", (0, 1, 2)), True)
        self.told((), ("v", (0, 1)), True)
        self.told((), ("w", (0, 1)), False)
        self.told((), ("v", (0,)), False)

    def test_all_columns_of_a_key_and_more(self):
        self.told((("w", (0,)),), ("w", (0,)), True)
        self.told((("w", (0,)),), ("w", (0, 2)), True)
        self.told((("w", (0, 2)),), ("w", (0, 2)), True)
        self.told((("w", (0, 2)),), ("w", (0,)), False)
        self.told((("w", (0, 2)),), ("w", (2,)), False)
        self.told((("w", (0, 2)),), ("w", (0, 1)), False)
        self.told((("w", (0, 1)), ("w", (2,))), ("w", (1, 2)), True)

    def test_a_key_of_another_relation(self):
        self.told((("v", (0,)),), ("w", (0,)), False)
        self.told((("v", (0,)), ("v", (1,))), ("w", (0, 1)), False)

    def test_columns_that_only_two_keys_together_have(self):
        self.told((("w", (0, 1)), ("w", (1, 2))), ("w", (0, 2)), False)
        self.told((("w", (0, 1)), ("v", (0,))), ("w", (0,)), False)
        book = ((rule("p A", "w A B C D"),), (("w", (0, 1)), ("w", (2, 3))))
        self.assertIs(key_follows(book, ("w", (1, 2))), False)
        self.assertIs(key_follows(book, ("w", (0, 2, 3))), True)
        self.assertIs(key_follows(book, ("w", (0, 3))), False)

    def test_by_all_stores(self):
        for keys in ((), (("v", (0,)),), (("v", (1,)), ("v", (0, 1)))):
            for key in (("v", (0,)), ("v", (1,)), ("v", (0, 1))):
                book = ((rule("p A", "v A B"),), keys)
                shown = [facts for facts in every_store({"v": 2}, "abc") if is_right(book, (), facts)
                         and not is_right((book[0], (key,)), (), facts)]
                self.assertIs(key_follows(book, key), not shown)


class SameTest(unittest.TestCase):
    def told(self, one, other, source, answer):
        self.assertIs(same_on(one, other, source), answer, (one, other, source))
        self.assertIs(same_on(other, one, source), answer, (one, other, source))
        self.assertIs(slow_same_on(one, other, source), answer, (one, other, source))

    def parted(self, one, other):
        """parting gives a source that shows it, both ways."""
        for first, second in ((one, other), (other, one)):
            source = parting(first, second)
            self.assertIsNotNone(source, (first, second))
            self.assertIs(is_source(one, source), True)
            self.assertIs(is_source(other, source), True)
            self.assertLessEqual(len(source), 4)
            self.told(one, other, source, False)

    def alike(self, one, other):
        """parting gives none, both ways."""
        self.assertIsNone(parting(one, other), (one, other))
        self.assertIsNone(parting(other, one), (one, other))

    def test_a_book_and_itself(self):
        numbers = chance(53)
        for _ in range(100):
            book = some_book(numbers, 3, 3)
            self.alike(book, book)
            self.told(book, book, some_source(numbers, book, 2), True)

    def test_another_order_and_other_letters(self):
        one = ((R, rule("p A", "u A")), (("in", (0,)), ("has", (1,))))
        other = ((rule("p X", "u X"), rule("emp Z Y", "in C Y, has C Z")), (("has", (1,)), ("in", (0,))))
        self.alike(one, other)
        for source in ((), store("emp a b, p c"), store("emp a b, emp a c, emp b c")):
            self.told(one, other, source, True)

    def test_written_otherwise(self):
        one = ((rule("p A", "u A, v A D"),), ())
        self.alike(one, ((rule("p A", "u A"), rule("p B", "v B D, v B E")), ()))
        self.alike(one, ((rule("p A, p B", "u A, v B D"),), ()))
        self.parted(one, ((rule("p A", "u A"), rule("p B", "v B B")), ()))
        self.parted(one, ((rule("p A", "u A, v D A"),), ()))
        self.parted(one, ((rule("p A", "u A, v A a"),), ()))
        self.parted(one, ((rule("p A, p B", "u A, v A D, v A B"),), ()))

    def test_a_rule_more(self):
        one = ((R,), ())
        self.parted(one, ((R, rule("emp A B", "in A B")), ()))
        self.parted(one, ((R, rule("emp A A", "u A")), ()))
        self.parted(one, ((R, rule("emp a A, emp A A", "u A")), ()))
        self.alike(one, ((R, rule("emp A B", "in D B")), ()))
        self.told(one, ((R, rule("emp A A", "u A")), ()), store("emp a b, emp b a"), True)
        self.told(one, ((R, rule("emp A A", "u A")), ()), store("emp a b, emp b b"), False)
        self.told(one, ((R, rule("dept A", "u A")), ()), store("emp a b, emp b b"), True)
        self.told(one, ((R, rule("dept A", "u A")), ()), store("dept a, emp b b"), False)

    def test_a_key_more(self):
        # Stores with facts that no rule calls for may break a key, also where the source has no facts.
        one, other = ((R,), ()), ((R,), (("in", (0,)),))
        self.parted(one, other)
        self.told(one, other, (), False)
        self.told(one, other, store("emp a b"), False)
        self.alike(one, ((R,), (("in", (0, 1)),)))
        self.alike(other, ((R,), (("in", (0, 1)), ("in", (0,)))))
        self.parted(other, ((R,), (("in", (1,)),)))
        self.told(other, ((R,), (("in", (1,)),)), store("emp a b"), False)
        self.parted(((rule("p A", "w A B C"),), (("w", (0, 1)), ("w", (1, 2)))),
                    ((rule("p A", "w A B C"),), (("w", (0, 1)), ("w", (0, 2)))))

    def test_a_key_of_a_relation_that_only_one_book_has(self):
        one, other = ((rule("p A", "u A"),), ()), ((rule("p A", "u A"), rule("q A B", "v A B")), (("v", (0,)),))
        self.parted(one, other)
        self.told(one, other, (), False)
        self.told(one, other, store("q a b, q a c"), False)
        all_columns = (other[0], (("v", (0, 1)),))
        self.told(one, all_columns, store("p a"), True)
        self.told(one, all_columns, store("q a b"), False)

    def test_neither_has_a_right_store(self):
        one = ((rule("q A B", "v A B"),), (("v", (0,)),))
        other = ((rule("q A B", "v A B"), rule("q A B", "u A")), (("v", (0,)), ("v", (1,))))
        self.told(one, other, store("q a b, q a c"), True)
        self.told(one, other, store("q a b"), False)

    def test_only_one_has_a_right_store(self):
        one = ((rule("q A B", "v A B"),), (("v", (0,)),))
        other = ((rule("q A B", "v A B"),), (("v", (0,)), ("v", (1,))))
        self.told(one, other, store("q a b, q c b"), False)
        self.told(one, (one[0], ()), store("q a b, q a c"), False)
        third = ((rule("q A B", "v A B, v A a"),), (("v", (0,)),))
        self.told(one, third, store("q a b"), False)
        self.told(one, third, store("q a a"), True)
        self.parted(one, third)

    def test_rules_that_no_right_store_lets_happen(self):
        one = ((rule("p A", "v A a, v A b"),), (("v", (0,)),))
        self.alike(one, ((rule("p A", "v A a, v A b, u A"),), (("v", (0,)),)))
        self.alike(one, ((rule("p A", "v A a, v A b"), rule("p A, q A B", "u A")), (("v", (0,)),)))
        self.parted(one, ((rule("p A", "v A a, v A b"), rule("q A B", "u A")), (("v", (0,)),)))

    def test_a_source_with_constants_of_the_books(self):
        # What parts the books is shown by sources with just these constants alone.
        one = ((rule("q A B", "v A B"), rule("q aa b", "u c")), ())
        other = ((rule("q A B", "v A B"), rule("q aa B", "u c")), ())
        self.parted(one, other)
        self.parted(((rule("p A", "u A"),), ()), ((rule("p A", "u A"), rule("p ab", "u a")), ()))
        self.parted(((rule("p A", "u A"), rule("p aa", "v aa aa")), ()), ((rule("p A", "u A, v A A"),), ()))
        # Constants that stand in the bodies alone, or in the heads alone.
        self.parted(((rule("p A", "u A"), rule("p aa, p A", "v A A")), ()), ((rule("p A", "u A, v A A"),), ()))
        self.parted(((rule("p A", "v A aa"),), ()), ((rule("p A", "v A A"),), ()))
        self.parted(((rule("p A", "v aa A"),), ()), ((rule("p A", "v A A"),), ()))
        self.parted(((rule("p A", "v aa ab"),), (("v", (0, 1)),)), ((rule("p A", "v A ab"),), ()))
        self.parted(((rule("q A B", "w A B aa, w A B ab"),), ()), ((rule("q A B", "w A B B, w A B A"),), ()))

    def test_all_by_the_words_of_the_document(self):
        numbers = chance(54)
        told = []
        for _ in range(500):
            one = narrow_book(numbers) if numbers.randrange(2) else some_book(numbers, 3, 2)
            other = some_other(numbers, one)
            for source in (some_source(numbers, one, 2), some_source(numbers, other, 2)):
                self.told(one, other, source, slow_same_on(one, other, source))
            if parting(one, other) is None:
                self.alike(one, other)
                for source in every_source(one, other):
                    self.told(one, other, source, True)
            else:
                self.parted(one, other)
            told.append(parting(one, other) is None)
        self.assertGreater(told.count(True), 100)
        self.assertGreater(told.count(False), 100)

    def test_same_on_by_all_stores(self):
        numbers = chance(55)
        same = 0
        for _ in range(40):
            one = narrow_book(numbers, 2)
            other = some_other(numbers, one)
            source = some_source(numbers, one, 2, ("a", "b"))
            if same_on(one, other, source):
                same += 1
                for facts in itertools.islice(every_store(NARROW, ("?1", "a", "b")), 0, 4096, 3):
                    self.assertEqual(is_right(one, source, facts), is_right(other, source, facts))
        self.assertGreater(same, 10)


def every_source(one, other):
    """Some sources that could part the books: their bodies with the constants of both and two more."""
    values = sorted({*words(one), *words(other), "x", "y"})
    return [source for body, _ in one[0] + other[0] for source in every_body(body, values)][::5]


class ShortestTest(unittest.TestCase):
    def told(self, book, less):
        self.assertEqual(shortest(book), less)
        self.assertEqual(shortest(less), less)
        self.assertIs(is_book(less), True)
        self.assertIsNone(parting(book, less))

    def test_nothing_to_leave_out(self):
        self.told(B, B)
        book = ((R, rule("emp A B", "u A")), (("in", (0,)), ("in", (1,)), ("u", (0,))))
        self.told(book, (book[0], book[1][:2]))
        self.told((book[0], book[1][:2]), (book[0], book[1][:2]))

    def test_rules_twice(self):
        self.told(((R, R), ()), ((R,), ()))
        one, other = rule("p A", "u A"), rule("p B", "u B")
        self.told(((one, other), ()), ((other,), ()))
        self.told(((one, other, one), ()), ((one,), ()))
        self.told(((one, R, other, R), ()), ((other, R), ()))

    def test_rules_that_follow(self):
        weak = rule("emp A B", "in D B")
        self.told(((weak, R), ()), ((R,), ()))
        self.told(((R, weak), ()), ((R,), ()))
        halves = (rule("p A", "u A"), rule("p A", "v A D"), rule("p A", "u A, v A D"))
        self.told((halves, ()), (halves[2:], ()))
        self.told(((halves[2], halves[0], halves[1]), ()), (halves[:2], ()))
        loose = (rule("p A", "w A D E"), rule("p A", "w A D D"), rule("p A, q A B", "w A A A"), rule("p A", "w A A A"))
        self.told((loose, ()), (loose[3:], ()))

    def test_rules_that_follow_only_by_a_key(self):
        rules = (rule("p A", "u A"), rule("p A", "v A D, u D"), rule("p A", "v A A"))
        self.told((rules, (("v", (0,)),)), (rules[1:], (("v", (0,)),)))
        self.told((rules, ()), ((rules[0], rules[2]), ()))

    def test_keys_that_follow(self):
        wide = (rule("p A", "w A B C"),)
        first, wider, all_columns = ("w", (0,)), ("w", (0, 1)), ("w", (0, 1, 2))
        self.told((wide, (first, wider)), (wide, (first,)))
        self.told((wide, (wider, first)), (wide, (first,)))
        self.told((wide, (first, first, first)), (wide, (first,)))
        self.told((wide, (all_columns,)), (wide, ()))
        self.told((wide, (all_columns, ("w", (2,)), wider)), (wide, (("w", (2,)), wider)))
        self.told((wide, (("w", (1, 2)), ("w", (0, 2)), wider)), (wide, (("w", (1, 2)), ("w", (0, 2)), wider)))

    def test_keys_and_rules(self):
        rules = (rule("p A", "v A D"), rule("p A", "v A A"))
        self.told((rules, (("v", (0, 1)), ("v", (1,)))), (rules[1:], (("v", (1,)),)))

    def test_a_rule_left_alone(self):
        self.told(((rule("p A", "u A"),), ()), ((rule("p A", "u A"),), ()))
        same = rule("p A", "u A, u A")
        self.told(((same,), ()), ((same,), ()))

    def test_a_book_that_would_be_none(self):
        # Without its first rule no rule would have the relation of the key in its head.
        book = ((rule("p A", "v A a, v A b"), rule("p A", "u A, u a")), (("v", (0,)),))
        self.told(book, (book[0][:1], book[1]))
        clash = ((rule("p A", "u a, u b, v A A"), rule("p A", "x A A, x A a, x a b")), (("x", (0,)), ("v", (0,))))
        self.told(clash, clash)
        freed = (clash[0], clash[1][:1])
        self.told(freed, (clash[0][1:], clash[1][:1]))

    def test_the_same_for_all_sources(self):
        numbers = chance(56)
        shorter = 0
        for _ in range(300):
            made = narrow_book(numbers) if numbers.randrange(2) else some_book(numbers, 3, 3)
            book = made[0] + (some_variant(numbers, numbers.choice(made[0])),), made[1]
            less = shortest(book)
            self.told(book, less)
            self.assertLessEqual(set(less[0]), set(book[0]))
            self.assertLessEqual(set(less[1]), set(book[1]))
            source = some_source(numbers, book, 2)
            self.assertIs(same_on(book, less, source), True)
            facts = some_facts(numbers, 5, "ab", HEAD_WIDTHS)
            self.assertEqual(is_right(book, source, facts), is_right(less, source, facts))
            self.assertEqual(less, slow_shortest(book))
            shorter += less != book
        self.assertGreater(shorter, 100)


def slow_shortest(book):
    """shortest, word by word."""
    rules, keys = list(enumerate(book[0])), list(enumerate(book[1]))
    there = {atom[0]: len(atom) - 1 for _, head in book[0] for atom in head}
    for number, (relation, columns) in enumerate(book[1]):
        left = [pair for pair in keys if pair[0] != number]
        if len(columns) == there[relation] or any(
                name == relation and set(others) <= set(columns) for _, (name, others) in left):
            keys = left
    told = tuple(key for _, key in keys)
    for number, given in enumerate(book[0]):
        left = [pair for pair in rules if pair[0] != number]
        less = tuple(made for _, made in left), told
        if is_book(less) and slow_follows(less, given):
            rules = left
    return tuple(made for _, made in rules), told


if __name__ == "__main__":
    unittest.main()
