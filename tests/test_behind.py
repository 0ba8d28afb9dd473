import unittest

from corestore.behind import has_through, is_behind, through
from corestore.cores import folding
from corestore.errors import Clash
from corestore.handing import has_right, least
from corestore.leads import lead
from corestore.right import is_right
from corestore.stores import plain
from helper import (B, HEAD_WIDTHS, R, chance, numbered, rule, slow_assignments, slow_core, slow_handed, slow_plain,
                    some_atoms, some_book, some_facts, some_source, stand_in, store, swapped)

LAST_WIDTHS = {"x": 1, "y": 2, "z": 3}
COPY = ((rule("has A B", "cop A B"), rule("in A B", "put A B")), ())


def book(*rows, keys=()):
    """A book of rules, each written as a text with a colon."""
    return tuple(rule(*row.split(" : ")) for row in rows), keys


def some_second(numbers):
    """Some book from HEAD_WIDTHS to LAST_WIDTHS without keys."""
    rules = []
    for _ in range(numbers.randrange(1, 3)):
        body = some_atoms(numbers, HEAD_WIDTHS, ["A", "B", "C", numbers.choice("ab")], 2)
        terms = sorted({term for atom in body for term in atom[1:] if term.isupper()}) * 2 + ["D", "b"]
        rules.append((body, some_atoms(numbers, LAST_WIDTHS, terms, 2)))
    return tuple(rules), ()


def slow_behind(first, second, source):
    """What comes of a source by both books, not folded, the middle store neither; None if no store is right."""
    middle = slow_handed(first, source)
    if middle is None:
        return None
    # slow_handed gives new unknowns numbers from 100 on.
    return slow_handed(second, swapped(middle, dict(zip(stand_in(middle), numbered(len(stand_in(middle)))))))


class IsBehindTest(unittest.TestCase):
    def test_one_behind_another(self):
        self.assertIs(is_behind(B, COPY), True)
        self.assertIs(is_behind(B, book("has A B, in A C : to B C D")), True)
        self.assertIs(is_behind(((R,), (("has", (1,)),)), COPY), True)
        self.assertIs(is_behind(COPY, B), False)

    def test_a_head_of_the_second_in_the_first(self):
        self.assertIs(is_behind(B, book("has A B : in A B")), False)
        self.assertIs(is_behind(B, book("has A B : emp A B")), False)
        self.assertIs(is_behind(B, book("has A B : emp A")), False)
        self.assertIs(is_behind(B, book("has A B : cop A B, in B A")), False)
        self.assertIs(is_behind(B, book("has A B : cop A B", "cup A : emp A A")), False)
        self.assertIs(is_behind(B, B), False)
        two = book("p A : u A", "q A B : v A B")
        self.assertIs(is_behind(two, book("u A : x A", "u A : v A A")), False)
        self.assertIs(is_behind(two, book("u A : x A", "u A : q A A")), False)
        self.assertIs(is_behind(two, book("u A : x A", "u A : y A A")), True)

    def test_other_numbers_of_terms(self):
        self.assertIs(is_behind(B, book("has A : cop A")), False)
        self.assertIs(is_behind(B, book("in A B C : cop A")), False)
        self.assertIs(is_behind(B, book("emp A : cop A")), False)
        self.assertIs(is_behind(B, book("has A B : cop A", "in A : cop A")), False)

    def test_a_body_of_the_second_in_a_body_of_the_first(self):
        self.assertIs(is_behind(B, book("emp A B : cop A B")), True)
        self.assertIs(is_behind(B, book("emp A B, has A B : cop A B")), True)

    def test_keys(self):
        self.assertIs(is_behind(B, (COPY[0], (("cop", (0,)),))), False)
        self.assertIs(is_behind(B, (COPY[0], (("cop", (0, 1)),))), False)

    def test_relations_that_the_first_does_not_have(self):
        self.assertIs(is_behind(B, book("zoo A : cop A")), True)
        self.assertIs(is_behind(COPY, book("zoo A : zoa A A A")), True)


class ThroughTest(unittest.TestCase):
    def comes(self, first, second, source, text):
        """Of the source comes the store of the text."""
        self.assertIs(is_behind(first, second), True)
        self.assertEqual(through(first, second, store(source) if source else ()), store(text) if text else ())
        self.assertIs(has_through(first, second, store(source) if source else ()), True)

    def clashes(self, first, second, source):
        """No store is right behind the books and the source."""
        self.assertIs(is_behind(first, second), True)
        with self.assertRaises(Clash):
            through(first, second, store(source))
        self.assertIs(has_through(first, second, store(source)), False)

    def test_a_copy_gives_the_least_store(self):
        for keys in ((), (("in", (1,)),), (("has", (1,)),)):
            first = ((R,), keys)
            for text in ("emp ann rome", "emp ann rome, emp bob rome", "emp ann rome, emp bob oslo, zoo a"):
                made = through(first, COPY, store(text))
                back = tuple(sorted(({"cop": "has", "put": "in"}[fact[0]], *fact[1:]) for fact in made))
                self.assertEqual(plain(back), least(first, store(text)))

    def test_unknowns_that_fold_in_the_second_step(self):
        first = book("p A : v A D, u D", "q A B : v A B")
        source = store("p a, q a b")
        self.assertEqual(least(first, source), store("u ?1, v a ?1, v a b"))
        self.comes(first, book("v A B : y A B"), "p a, q a b", "y a b")
        self.comes(first, book("u A : x A", "v A B : y A B"), "p a, q a b", "x ?1, y a ?1, y a b")
        self.comes(first, book("v A B : y B A"), "p a, p c", "y ?1 a, y ?2 c")
        self.comes(first, book("v A B : x B"), "p a, p c", "x ?1")
        self.comes(B, book("has A B : x A"), "emp ann rome, emp bob rome", "x ?1")

    def test_what_comes_need_not_be_right(self):
        first, second = book("p A : v A D, u D", "q A B : v A B"), book("v A B : y A B")
        middle = least(first, store("p a, q a b"))
        made = through(first, second, store("p a, q a b"))
        self.assertIs(is_right(second, middle, made), False)

    def test_unknowns_are_values_of_the_second_step(self):
        self.comes(B, book("has A B : y B A", "in A B : z A A B"), "emp ann rome", "y ann ?1, z ?1 ?1 rome")
        self.comes(B, book("in A B : y A C"), "emp ann rome", "y ?1 ?2")
        self.comes(B, book("in A B : y A C, y C C"), "emp ann rome", "y ?1 ?1")

    def test_new_unknowns_of_the_second_step(self):
        self.comes(B, book("in A B : y A C, z A B C"), "emp ann rome, emp bob rome",
                   "y ?1 ?2, z ?1 rome ?2")
        self.comes(B, book("has A B : y B C"), "emp ann rome, emp bob rome", "y ann ?1, y bob ?2")
        self.comes(B, book("has A B : z A B C", "in A B : y A D"), "emp ann rome", "y ?1 ?2, z ?1 ann ?3")
        # The new unknown is not the one of the first step: it would stand in the first place, too.
        self.comes(B, book("has A B : y B C", "in A B : z A B D"), "emp ann rome", "y ann ?1, z ?2 rome ?3")

    def test_joins_over_an_unknown(self):
        self.comes(B, book("has A B, in A C : y B C"), "emp ann rome, emp bob oslo", "y ann rome, y bob oslo")
        self.comes(((R,), (("in", (1,)),)), book("has A B, has A C : y B C"), "emp ann rome, emp bob rome",
                   "y ann ann, y ann bob, y bob ann, y bob bob")
        self.comes(B, book("has A B, has A C : y B C"), "emp ann rome, emp bob rome", "y ann ann, y bob bob")
        self.comes(B, book("has A B, in B A : x A"), "emp ann rome", "")

    def test_keys_of_the_first_book(self):
        first = book("p A : v A D", "q A B : v A B", keys=(("v", (0,)),))
        self.comes(first, book("v A B : y B A"), "p a", "y ?1 a")
        self.comes(first, book("v A B : y B A"), "p a, q a b", "y b a")
        self.comes(first, book("v A b : x A"), "p a, p c, q a b", "x a")
        self.clashes(first, book("v A B : y B A"), "q a b, q a c")
        # The unknowns of two facts are one, so that they meet in the second step.
        first = book("s A B C : w A D B", keys=(("w", (0,)),))
        self.comes(first, book("w A B C : z A B C"), "s a b c, s a b d", "z a ?1 b")
        self.clashes(first, book("w A B C : x A"), "s a b c, s a c c")

    def test_a_clash_of_which_the_second_book_sees_nothing(self):
        first = book("q A B : v A B", "p A : u A", keys=(("v", (0,)),))
        self.clashes(first, book("u A : x A"), "p a, q a b, q a c")
        self.clashes(first, book("zoo A : x A"), "q a b, q a c")
        self.comes(first, book("u A : x A"), "p a, q a b", "x a")

    def test_constants(self):
        self.comes(book("p a : u A", "p B : v B c"), book("u A : y A d", "v A c : x A"), "p a, p b",
                   "x a, x b, y ?1 d")
        self.comes(B, book("in A oslo : y A oslo"), "emp ann rome, emp bob oslo", "y ?1 oslo")
        self.comes(B, book("has A bob, in A oslo : x yes"), "emp ann rome, emp bob oslo", "x yes")
        self.comes(B, book("has A ann, in A oslo : x yes"), "emp ann rome, emp bob oslo", "")

    def test_the_empty_source(self):
        self.comes(B, COPY, "", "")
        self.comes(((R,), (("in", (0,)),)), COPY, "", "")

    def test_facts_of_the_source_are_not_handed_over_twice(self):
        # The second book looks at the middle store alone, not at the source.
        self.comes(B, book("emp A B : y A B"), "emp ann rome", "")
        self.comes(B, book("zoo A : x A", "has A B : cop A B"), "emp ann rome, zoo b", "cop ?1 ann")
        self.comes(book("p A : u A"), book("u A : x A"), "p a, x b", "x a")

    def test_all_by_the_words_of_the_document(self):
        numbers = chance(71)
        some = clashes = 0
        while some < 250:
            first, second = some_book(numbers), some_second(numbers)
            source = some_source(numbers, first, 2)
            made = slow_behind(first, second, source)
            self.assertIs(is_behind(first, second), True)
            self.assertIs(has_through(first, second, source), made is not None)
            if made is None:
                clashes += 1
                self.assertRaises(Clash, through, first, second, source)
            elif 0 < len(stand_in(made)) < 5 and len({value for fact in made for value in fact[1:]}) < 8:
                some += 1
                self.assertEqual(through(first, second, source), slow_core(made), (first, second, source))
        self.assertGreater(clashes, 10)

    def test_it_leads_into_all_stores_that_are_right_behind(self):
        numbers = chance(72)
        some = 0
        for _ in range(900):
            first, second = some_book(numbers), some_second(numbers)
            source = some_source(numbers, first, 2)
            middle = slow_handed(first, source)
            if middle is None:
                continue
            # Some store that is right for the first book, with values for the unknowns and facts more.
            values = {name: numbers.choice(["a", "b", "?7", "?8"]) for name in stand_in(middle)}
            middle = tuple(sorted(set(swapped(middle, values)) | set(some_facts(numbers, 2, ["a", "?7"], HEAD_WIDTHS))))
            last = slow_handed(second, middle)
            if not is_right(first, source, middle) or len(slow_assignments(second[0][0][0], middle)) > 4:
                continue
            last = swapped(last, {name: numbers.choice(["b", "?1", "?2"]) for name in stand_in(last)})
            self.assertIsNotNone(lead(through(first, second, source), last))
            self.assertIsNone(folding(through(first, second, source)))
            some += bool(last)
        self.assertGreater(some, 100)

    def test_names_are_plain(self):
        numbers = chance(73)
        for _ in range(200):
            first, second = some_book(numbers), some_second(numbers)
            source = some_source(numbers, first, 2)
            if has_right(first, source):
                made = through(first, second, source)
                if len(stand_in(made)) < 6:
                    self.assertEqual(slow_plain(made), made)


if __name__ == "__main__":
    unittest.main()
