import unittest

from corestore.books import is_source
from corestore.changes import fewest, needless, news
from corestore.errors import Clash
from corestore.handing import has_right, least
from corestore.questions import sure
from helper import (B, BODY_WIDTHS, R, ask, chance, rule, slow_answers, slow_core, slow_handed, some_book, some_facts,
                    some_question, some_source, stand_in, store)


def book(*rows, keys=()):
    """A book of rules, each written as a text with a colon."""
    return tuple(rule(*row.split(" : ")) for row in rows), keys


WEAK = book("q A B : v A D")
KEYED = book("q A B : v A B", "p A : u A", keys=(("v", (0,)),))


def slow_outcome(given, source):
    """The least store, or None."""
    made = slow_handed(given, source)
    return None if made is None else slow_core(made)


def less(source, fact):
    return tuple(other for other in source if other != fact)


def slow_needless(given, source):
    """needless, word by word."""
    whole = slow_outcome(given, source)
    return tuple(fact for fact in source if slow_outcome(given, less(source, fact)) == whole)


def slow_fewest(given, source):
    """fewest, word by word."""
    whole, left = slow_outcome(given, source), source
    for fact in source:
        if slow_outcome(given, less(left, fact)) == whole:
            left = less(left, fact)
    return left


def small(given, source):
    """Whether few values come of the source, so that slow_core is quick."""
    made = slow_handed(((given[0]), ()), source)
    return len(stand_in(made)) < 5 and len({value for fact in made for value in fact[1:]}) < 8


class Base(unittest.TestCase):
    def told(self, given, source, some, left):
        """Of the source some facts are needless, and the fewest ones are left; all of these are texts."""
        source, some, left = [store(text) if text else () for text in (source, some, left)]
        self.assertTrue(is_source(given, source))
        self.assertEqual(needless(given, source), some)
        self.assertEqual(fewest(given, source), left)
        self.comes_the_same(given, source, left)

    def comes_the_same(self, given, source, left):
        self.assertLessEqual(set(left), set(source))
        self.assertIs(has_right(given, left), has_right(given, source))
        if has_right(given, source):
            self.assertEqual(least(given, left), least(given, source))
        self.assertEqual(fewest(given, left), left)
        self.assertEqual(needless(given, left), ())


class NeedlessTest(Base):
    def test_each_fact_is_needful(self):
        self.told(B, "emp ann rome, emp bob rome", "", "emp ann rome, emp bob rome")
        self.told(KEYED, "p a, q a b, q b b", "", "p a, q a b, q b b")

    def test_facts_that_no_rule_looks_at(self):
        self.told(B, "dept a, emp ann rome, zoo a b", "dept a, zoo a b", "emp ann rome")
        self.told(B, "dept a, zoo a b", "dept a, zoo a b", "")
        self.told(book("q A a : v A A"), "q a b, q b a", "q a b", "q b a")
        self.told(book("q A B, p B : v A A"), "p a, p c, q a b, q b a", "p c, q a b", "p a, q b a")

    def test_what_comes_folds_onto_what_comes_of_another_fact(self):
        given = book("p A : v A D", "q A B : v A B")
        self.told(given, "p a, p b, q a c", "p a", "p b, q a c")
        self.told(book("p A : u D", "q A B : u A"), "p a, q a b", "p a", "q a b")

    def test_each_alone_but_not_both(self):
        self.told(WEAK, "q a b, q a c", "q a b, q a c", "q a c")
        self.told(WEAK, "q a b, q a c, q a d, q b a, q b b, q c c",
                  "q a b, q a c, q a d, q b a, q b b", "q a d, q b b, q c c")
        self.told(book("p A : u D"), "p a, p b, p c", "p a, p b, p c", "p c")
        # The later one can no longer be left out, though it can be left out of the whole source.
        self.told(book("p A : u A", "q A B : u A"), "p a, q a b, q b b", "p a, q a b", "q a b, q b b")

    def test_the_empty_source(self):
        self.told(B, "", "", "")
        self.told(KEYED, "", "", "")

    def test_keys_that_make_a_fact_needless(self):
        rows = ("p A : v A D", "q A B : v A D, u D", "s A B C : v A C")
        self.told(book(*rows), "p a, q a b, s a a c", "p a", "q a b, s a a c")
        # With the key p and q together tell what s tells.
        rows = ("p A : w A D D", "q A B : w A B D", "s A B C : w A B C")
        self.told(book(*rows), "p a, q a b, s a b b", "p a, q a b", "s a b b")
        self.told(book(*rows, keys=(("w", (0,)),)), "p a, q a b, s a b b", "p a, q a b, s a b b", "s a b b")
        self.told(book(*rows), "p a, q a b", "", "p a, q a b")
        self.told(book(*rows, keys=(("w", (0,)),)), "p a, q a b", "", "p a, q a b")

    def test_keys_that_make_a_fact_needful(self):
        keys = (("in", (1,)),)
        self.told(((R,), keys), "emp ann rome, emp bob rome", "", "emp ann rome, emp bob rome")
        # By the key q tells of which value u is.
        rows = ("p A : v A D, u D", "q A B : v A B")
        self.told(book(*rows, keys=(("v", (0,)),)), "p a, q a b", "", "p a, q a b")
        self.told(book(*rows, keys=(("v", (0,)),)), "p a, p c, q a b, q c b", "p a, p c",
                  "p c, q a b, q c b")
        self.told(book(*rows, "r A : u A", keys=(("v", (0,)),)), "p a, q a b, r b", "p a, r b", "q a b, r b")
        self.told(book(*rows, "r A : u A"), "p a, q a b, r b", "p a", "q a b, r b")

    def test_no_store_is_right(self):
        self.told(KEYED, "q a b, q a c", "", "q a b, q a c")
        self.told(KEYED, "p a, q a b, q a c", "p a", "q a b, q a c")
        self.told(KEYED, "p a, q a b, q a c, q b c", "p a, q b c", "q a b, q a c")
        self.told(KEYED, "q a b, q a c, q a d", "q a b, q a c, q a d", "q a c, q a d")
        self.told(KEYED, "q a b, q a c, q b b, q b c", "q a b, q a c, q b b, q b c", "q b b, q b c")

    def test_needless_by_the_words_of_the_document(self):
        numbers = chance(81)
        some = none = many = 0
        while many < 300:
            given = some_book(numbers)
            facts = set(some_source(numbers, given, 4)) | set(some_facts(numbers, 2, ["a", "b"], BODY_WIDTHS))
            source = tuple(sorted(facts))
            if small(given, source):
                many += 1
                expected = slow_needless(given, source)
                self.assertEqual(needless(given, source), expected, (given, source))
                left = slow_fewest(given, source)
                self.assertEqual(fewest(given, source), left, (given, source))
                self.comes_the_same(given, source, left)
                some += bool(left) and left != less(source, expected[0]) if expected else False
                none += slow_handed(given, source) is None
        self.assertGreater(some, 30)
        self.assertGreater(none, 10)


class NewsTest(unittest.TestCase):
    def told(self, given, source, question, fact, *rows):
        """The fact brings just these answers, each written as a text."""
        source, fact = store(source) if source else (), tuple(fact.split())
        come, gone = news(given, source, question, fact)
        self.assertEqual(come, tuple(tuple(row.split()) for row in rows))
        self.assertEqual(gone, ())
        # Whether the fact stands in the source makes no difference.
        with_it = tuple(sorted({*source, fact}))
        self.assertEqual(news(given, with_it, question, fact), (come, gone))
        self.assertEqual(news(given, less(source, fact), question, fact), (come, gone))

    def test_a_fact_that_brings_answers(self):
        self.told(B, "emp ann rome", ask("A", "has C A, in C rome"), "emp bob rome", "bob")
        self.told(B, "", ask("A B", "has C A, in C B"), "emp bob rome", "bob rome")
        self.told(B, "", ask("", "has C A"), "emp bob rome", "")
        self.told(book("q A B, q B C : v A C"), "q a b, q b b, q c d", ask("A B", "v A B"), "q b c",
                  "a c", "b c", "b d")

    def test_a_fact_that_brings_none(self):
        self.told(B, "emp ann rome", ask("A", "in C A"), "emp bob rome")
        self.told(B, "emp ann rome", ask("", "has C A"), "emp bob rome")
        self.told(B, "emp ann rome", ask("A", "has A B"), "emp bob rome")
        self.told(B, "emp ann rome", ask("A", "emp A B"), "emp bob rome")

    def test_a_fact_that_stands_in_the_source_already(self):
        source = store("emp ann rome, emp bob rome")
        question = ask("A", "has C A, in C rome")
        self.assertEqual(news(B, source, question, source[1]), ((("bob",),), ()))
        self.assertEqual(news(B, source[1:], question, source[1]), ((("bob",),), ()))
        self.assertEqual(news(WEAK, store("q a b, q a c"), ask("A", "v A B"), ("q", "a", "b")), ((), ()))

    def test_a_fact_that_no_rule_looks_at(self):
        self.told(B, "emp ann rome", ask("A", "has C A"), "zoo a b")
        self.told(B, "", ask("A", "zoo A B"), "zoo a b")

    def test_a_key_makes_an_unknown_a_constant(self):
        given = book("p A : v A D, u D", "q A B : v A B", keys=(("v", (0,)),))
        self.told(given, "p a, p c", ask("A", "u A"), "q a b", "b")
        self.told(given, "p a, p c", ask("A B", "v A B, u B"), "q a b", "a b")
        self.told((given[0], ()), "p a, p c", ask("A", "u A"), "q a b")
        self.told(((R,), (("in", (1,)),)), "emp ann rome", ask("A B", "has C A, has C B"), "emp bob rome",
                  "ann bob", "bob ann", "bob bob")

    def test_no_store_is_right(self):
        question = ask("A", "v A B")
        with self.assertRaises(Clash):
            news(KEYED, store("q a b"), question, ("q", "a", "c"))
        with self.assertRaises(Clash):
            news(KEYED, store("q a b, q a c"), question, ("q", "a", "c"))
        with self.assertRaises(Clash):
            news(KEYED, store("q a b, q a c"), question, ("q", "b", "c"))
        with self.assertRaises(Clash):
            news(KEYED, store("q a b, q a c"), question, ("zoo", "b"))
        self.told(KEYED, "q a b", question, "q b c", "b")

    def test_order(self):
        self.told(book("q A B : v A C, v B C"), "q e f", ask("A", "v A B"), "q d a", "a", "d")

    def test_all_by_the_words_of_the_document(self):
        numbers = chance(82)
        some = clashes = 0
        for _ in range(1500):
            given = some_book(numbers)
            whole = some_source(numbers, given, 4)
            question = some_question(numbers)
            if not whole:
                continue
            fact = numbers.choice(whole)
            source = whole if numbers.randrange(2) else less(whole, fact)
            made, before = slow_handed(given, whole), slow_handed(given, less(whole, fact))
            if made is None:
                clashes += 1
                self.assertRaises(Clash, news, given, source, question, fact)
            elif len({value for row in made for value in row[1:]}) < 8:
                after, ahead = slow_answers(question, made), slow_answers(question, before)
                come = tuple(row for row in after if row not in ahead)
                self.assertEqual(news(given, source, question, fact), (come, ()))
                self.assertLessEqual(set(ahead), set(after))
                self.assertEqual(after, sure(given, whole, question))
                some += bool(come)
        self.assertGreater(some, 30)
        self.assertGreater(clashes, 30)


if __name__ == "__main__":
    unittest.main()
