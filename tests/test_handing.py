import unittest

from corestore.cores import core, folding
from corestore.errors import Clash, CoreError
from corestore.handing import has_right, least
from corestore.leads import lead
from corestore.right import is_right
from corestore.stores import is_store, plain, unknowns
from helper import (B, HEAD_WIDTHS, R, chance, every_store, rule, slow_broken, slow_core, slow_handed, some_book,
                    some_source, stand_in, store)

TWO = (("emp", "ann", "rome"), ("emp", "bob", "rome"))


class HandingTest(unittest.TestCase):
    def comes(self, book, source, facts):
        """facts is the least store, by the words of the document as far as one store shows them."""
        self.assertEqual(least(book, source), facts)
        self.assertIs(has_right(book, source), True)
        self.assertIsNone(slow_broken(book, source, facts))
        self.assertIs(is_right(book, source, facts), True)
        self.assertIsNone(folding(facts))
        self.assertEqual(plain(facts), facts)

    def clashes(self, book, source):
        self.assertIs(has_right(book, source), False)
        with self.assertRaises(Clash) as caught:
            least(book, source)
        self.assertIsInstance(caught.exception, CoreError)

    def test_examples(self):
        apart = store("has ?1 ann, has ?2 bob, in ?1 rome, in ?2 rome")
        self.comes(B, TWO, apart)
        self.comes(((R,), (("has", (1,)),)), TWO, apart)
        self.comes(((R,), (("in", (1,)),)), TWO, store("has ?1 ann, has ?1 bob, in ?1 rome"))

    def test_the_empty_source(self):
        self.comes(B, (), ())
        self.comes(((R,), (("in", (0,)), ("has", (0,)), ("in", (1,)))), (), ())

    def test_facts_that_no_rule_looks_at(self):
        self.comes(B, store("dept rome ann, zoo a"), ())
        self.comes(B, store("dept rome ann, emp ann rome, zoo a"), store("has ?1 ann, in ?1 rome"))
        book = ((rule("p a", "u D"),), ())
        self.comes(book, store("p b, p c"), ())

    def test_constants_in_a_head(self):
        book = ((rule("p A", "v A x, v y D, u z"),), ())
        self.comes(book, store("p a, p b"), store("u z, v a x, v b x, v y ?1"))
        self.comes(book, store("p y"), store("u z, v y x"))
        self.comes(((rule("p a", "u b"),), ()), store("p a"), store("u b"))
        self.comes(((rule("p a", "u D, v D E"),), ()), store("p a"), store("u ?1, v ?1 ?2"))

    def test_bodies_of_two_and_three_atoms(self):
        book = ((rule("q A B, q B C", "v A C"),), ())
        self.comes(book, store("q a b, q b c, q c a"), store("v a c, v b a, v c b"))
        self.comes(book, store("q a b, q c d"), ())
        book = ((rule("p A, q A B, p B", "v B D, v D A"),), ())
        self.comes(book, store("p a, p b, q a b, q b c"), store("v ?1 a, v b ?1"))
        self.comes(book, store("p a, q a a"), store("v ?1 a, v a ?1"))
        self.comes(((rule("p A, p B, p C", "w A B C"),), ()), store("p a"), store("w a a a"))

    def test_unknowns_that_fold(self):
        book = ((rule("q A B", "v A D"),), ())
        self.comes(book, store("q a b, q a c, q b c"), store("v a ?1, v b ?2"))
        book = ((rule("q A B", "v A D"), rule("p A", "v A A")), ())
        self.comes(book, store("p a, q a b, q b c"), store("v a a, v b ?1"))
        book = ((rule("p A", "v A D"), rule("p A", "v A E, u E")), ())
        self.comes(book, store("p a"), store("u ?1, v a ?1"))

    def test_keys_that_make_two_unknowns_equal(self):
        book = ((rule("p A", "v A D"), rule("p A", "w D A E")), (("v", (0,)),))
        self.comes(book, store("p a"), store("v a ?1, w ?2 a ?3"))
        book = ((rule("p A", "v A D, u D"), rule("s A B C", "v A D, w D B C")), (("v", (0,)),))
        self.comes(book, store("p a, s a b c"), store("u ?1, v a ?1, w ?1 b c"))
        self.comes(book, store("p a, p d, s a b c"), store("u ?1, u ?2, v a ?1, v d ?2, w ?1 b c"))

    def test_keys_that_make_an_unknown_a_constant(self):
        book = ((rule("p A", "v A D, u D"), rule("q A B", "v A B")), (("v", (0,)),))
        self.comes(book, store("p a, q a b"), store("u b, v a b"))
        self.comes(book, store("p a, q c b"), store("u ?1, v a ?1, v c b"))
        # A greater constant and a lesser one, in both columns.
        book = ((rule("p A", "v D A, u D"), rule("q A B", "v A B")), (("v", (1,)),))
        self.comes(book, store("p b, q a b"), store("u a, v a b"))

    def test_keys_of_several_columns(self):
        book = ((rule("q A B", "w A B D"), rule("p A", "w A A A")), (("w", (0, 1)),))
        self.comes(book, store("p a, q a a, q a b"), store("w a a a, w a b ?1"))
        book = ((rule("q A B", "w A B D"),), (("w", (0,)),))
        self.comes(book, store("q a b, q b a"), store("w a b ?1, w b a ?2"))
        self.clashes(book, store("q a b, q a c"))
        book = ((rule("q A B", "w A D E, w A D B"),), (("w", (0, 1)),))
        self.comes(book, store("q a b"), store("w a ?1 b"))

    def test_one_after_another(self):
        # First the key of v, then what it makes equal breaks the key of w.
        book = ((rule("p A", "v A D, w D A E"), rule("q A B", "v A D, w D A B")), (("v", (0,)), ("w", (0,))))
        self.comes(book, store("p a, q a b"), store("v a ?1, w ?1 a b"))
        turned = (book[0], (("w", (0,)), ("v", (0,))))
        self.comes(turned, store("p a, q a b"), store("v a ?1, w ?1 a b"))
        self.clashes(book, store("q a b, q a c"))
        self.clashes(turned, store("q a b, q a c"))
        self.clashes(turned, store("p a, q a b, q a c"))
        self.comes(turned, store("q a b, q b c"), store("v a ?1, v b ?2, w ?1 a b, w ?2 b c"))
        # A key of a relation whose facts are made equal one behind another.
        chained = ((rule("q A B", "v A D, v D B"),), (("v", (0,)),))
        self.comes(chained, store("q a b"), store("v ?1 b, v a ?1"))
        self.clashes(chained, store("q a b, q a c"))
        self.comes(chained, store("q a a"), store("v ?1 a, v a ?1"))
        both = ((rule("q A B", "v A D, v D B"), rule("p A", "v A A")), (("v", (0,)),))
        self.comes(both, store("p a, q a a"), store("v a a"))
        self.clashes(both, store("p a, q a b"))

    def test_constants_that_would_have_to_be_one(self):
        book = ((rule("q A B", "v A B"),), (("v", (0,)),))
        self.comes(book, store("q a b, q b b"), store("v a b, v b b"))
        self.clashes(book, store("q a b, q a c"))
        self.clashes(((rule("p A", "v A x, v A y"),), (("v", (0,)),)), store("p a"))
        self.comes(((rule("p A", "v A x, v A y"),), (("v", (1,)),)), store("p a"), store("v a x, v a y"))
        self.clashes(((rule("p A", "v A x, v A y"),), (("v", (1,)),)), store("p a, p b"))

    def test_a_key_of_all_columns(self):
        book = ((rule("q A B", "v A B, v A D"),), (("v", (0, 1)),))
        self.comes(book, store("q a b, q a c"), store("v a b, v a c"))

    def test_more_than_nine_facts_and_unknowns(self):
        book = ((rule("p A", "v A D"),), ())
        source = tuple(("p", sign) for sign in "abcdefghijkl")
        facts = least(book, source)
        self.assertEqual(len(facts), 12)
        self.assertEqual(facts, slow_shape(source))

    def test_all_by_the_words_of_the_document(self):
        numbers = chance(35)
        clashes = 0
        for _ in range(1000):
            book = some_book(numbers, 3, 3)
            source = some_source(numbers, book)
            made = slow_handed(book, source)
            if made is None:
                self.clashes(book, source)
                clashes += 1
            elif len(stand_in(made)) <= 4:
                self.comes(book, source, slow_core(made))
            else:
                self.comes(book, source, core(made))
        self.assertGreater(clashes, 20)

    def test_it_leads_into_all_right_stores(self):
        numbers = chance(36)
        tried = 0
        for _ in range(60):
            book = some_book(numbers, 2, 2, ("a",))
            source = some_source(numbers, book, 2, ("a", "b"))
            names = sorted({atom[0] for _, head in book[0] for atom in head})
            few = {name: HEAD_WIDTHS[name] for name in names}
            if len(names) < 3 and "w" not in few:
                for facts in every_store(few, ("?1", "a", "b")):
                    if slow_broken(book, source, facts) is None:
                        self.assertIs(has_right(book, source), True)
                        self.assertIsNotNone(lead(least(book, source), facts), (book, source, facts))
                        tried += 1
        self.assertGreater(tried, 200)

    def test_what_comes_is_plain_and_a_store(self):
        numbers = chance(37)
        for _ in range(200):
            book = some_book(numbers)
            source = some_source(numbers, book)
            if has_right(book, source):
                facts = least(book, source)
                self.assertIs(is_store(facts), True)
                self.assertEqual(unknowns(facts), tuple(sorted(f"?{k + 1}" for k in range(len(unknowns(facts))))))
                self.assertEqual(core(facts), facts)


def slow_shape(source):
    """The plain store of facts v with a constant of the source and an unknown of its own."""
    names = sorted(f"?{number + 1}" for number in range(len(source)))
    return tuple(("v", fact[1], name) for fact, name in zip(source, names))


if __name__ == "__main__":
    unittest.main()
