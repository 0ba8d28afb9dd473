import unittest

from corestore.right import broken, is_right
from helper import (B, BODY_WIDTHS, HEAD_WIDTHS, R, chance, rule, slow_broken, slow_handed, some_book,
                    some_facts, some_source, store, swapped)

EMPS = (("emp", "ann", "rome"), ("emp", "bob", "oslo"))
GOOD = (("has", "x", "ann"), ("has", "y", "bob"), ("in", "x", "rome"), ("in", "y", "oslo"))


class RuleTest(unittest.TestCase):
    def told(self, book, source, facts, answer):
        self.assertEqual(broken(book, source, facts), answer)
        self.assertIs(is_right(book, source, facts), answer is None)
        self.assertEqual(slow_broken(book, source, facts), answer)

    def test_example(self):
        self.told(B, (("emp", "ann", "rome"),), (), ("rule", 0, (("A", "ann"), ("B", "rome"))))

    def test_kept(self):
        self.told(B, EMPS, GOOD, None)
        self.told(B, (), (), None)
        self.told(B, (), GOOD, None)
        self.told(B, EMPS[:1], GOOD, None)

    def test_invented_variables_must_be_one_value_in_all_atoms(self):
        self.told(B, EMPS[:1], store("has x ann, in y rome"), ("rule", 0, (("A", "ann"), ("B", "rome"))))
        self.told(B, EMPS[:1], store("has x ann, in x rome"), None)
        self.told(B, EMPS[:1], store("has x ann, has y ann, in y rome, in z rome"), None)
        self.told(B, EMPS[:1], store("has ann ann, in ann rome"), None)
        self.told(B, EMPS[:1], store("has ann x, in ann rome"), ("rule", 0, (("A", "ann"), ("B", "rome"))))

    def test_the_first_assignment(self):
        source = EMPS + (("emp", "eve", "rome"),)
        self.told(B, source, (), ("rule", 0, (("A", "ann"), ("B", "rome"))))
        self.told(B, source, store("has x ann, in x rome"), ("rule", 0, (("A", "bob"), ("B", "oslo"))))
        self.told(B, source, GOOD, ("rule", 0, (("A", "eve"), ("B", "rome"))))

    def test_the_first_assignment_is_the_least_one_not_that_of_the_first_fact(self):
        book = ((rule("q B A", "u A"),), ())
        source = store("q a c, q b b, q c a")
        self.told(book, source, (), ("rule", 0, (("A", "a"), ("B", "c"))))
        self.told(book, source, store("u a"), ("rule", 0, (("A", "b"), ("B", "b"))))
        book = ((rule("q Z Y, p X", "u X"),), ())
        self.told(book, store("p a, p b, q c d, q d c"), (), ("rule", 0, (("X", "a"), ("Y", "c"), ("Z", "d"))))

    def test_the_first_rule(self):
        book = ((rule("p A", "u A"), rule("q A B", "v A B"), rule("q A B", "u B")), ())
        source = store("p a, q a b")
        self.told(book, source, (), ("rule", 0, (("A", "a"),)))
        self.told(book, source, store("u a"), ("rule", 1, (("A", "a"), ("B", "b"))))
        self.told(book, source, store("u a, v a b"), ("rule", 2, (("A", "a"), ("B", "b"))))
        self.told(book, source, store("u a, u b"), ("rule", 1, (("A", "a"), ("B", "b"))))
        self.told(book, source, store("u a, u b, v a b"), None)

    def test_bodies_of_several_atoms(self):
        book = ((rule("q A B, q B C", "v A C"),), ())
        self.told(book, store("q a b"), (), None)
        self.told(book, store("q a a"), (), ("rule", 0, (("A", "a"), ("B", "a"), ("C", "a"))))
        self.told(book, store("q a b, q b c"), (), ("rule", 0, (("A", "a"), ("B", "b"), ("C", "c"))))
        self.told(book, store("q a b, q b c"), store("v a c"), None)
        self.told(book, store("q a b, q b c"), store("v a b"), ("rule", 0, (("A", "a"), ("B", "b"), ("C", "c"))))
        three = ((rule("p A, q A B, p B", "u B"),), ())
        self.told(three, store("p a, q a b"), (), None)
        self.told(three, store("p a, p b, q a b"), (), ("rule", 0, (("A", "a"), ("B", "b"))))
        self.told(three, store("p a, p b, q a b"), store("u a"), ("rule", 0, (("A", "a"), ("B", "b"))))

    def test_constants_and_no_variables(self):
        book = ((rule("q a B", "v B c"),), ())
        self.told(book, store("q b a"), (), None)
        self.told(book, store("q a b, q b a"), (), ("rule", 0, (("B", "b"),)))
        self.told(book, store("q a b"), store("v b b"), ("rule", 0, (("B", "b"),)))
        self.told(book, store("q a b"), store("v b c"), None)
        self.told(((rule("p a", "u b"),), ()), store("p a"), (), ("rule", 0, ()))
        self.told(((rule("p a", "u b"),), ()), store("p a"), store("u a"), ("rule", 0, ()))
        self.told(((rule("p a", "u b"),), ()), store("p a"), store("u b"), None)
        self.told(((rule("p a", "u b"),), ()), store("p b"), (), None)
        self.told(((rule("p a", "u D, v D E"),), ()), store("p a"), store("u a, v b a"), ("rule", 0, ()))

    def test_the_same_variable_in_several_places(self):
        book = ((rule("q A A", "v A A"),), ())
        self.told(book, store("q a b"), (), None)
        self.told(book, store("q a b, q b b"), store("v a a, v b a"), ("rule", 0, (("A", "b"),)))
        self.told(((rule("p A", "v D D"),), ()), store("p a"), store("v a b, v b a"), ("rule", 0, (("A", "a"),)))
        self.told(((rule("p A", "v D D"),), ()), store("p a"), store("v a b, v b b"), None)

    def test_unknowns_in_the_store_are_values_like_others(self):
        self.told(B, EMPS[:1], store("has ?1 ann, in ?1 rome"), None)
        self.told(B, EMPS[:1], store("has ?1 ann, in ?2 rome"), ("rule", 0, (("A", "ann"), ("B", "rome"))))
        self.told(B, EMPS[:1], store("has ?1 ?2, in ?1 rome"), ("rule", 0, (("A", "ann"), ("B", "rome"))))
        self.told(((rule("p A", "v A a"),), ()), store("p b"), store("v b ?1"), ("rule", 0, (("A", "b"),)))

    def test_facts_of_other_relations(self):
        self.told(B, EMPS, tuple(sorted(GOOD + (("dept", "a"), ("zoo", "?1", "b", "c", "d")))), None)
        self.told(B, (("dept", "a"),) + EMPS[:1], (("dept", "a"),), ("rule", 0, (("A", "ann"), ("B", "rome"))))
        self.told(B, (("dept", "a"),), (), None)


class KeyTest(unittest.TestCase):
    told = RuleTest.told

    def keyed(self, *keys):
        return (R,), keys

    def test_kept(self):
        self.told(self.keyed(("in", (0,)), ("has", (1,))), EMPS, GOOD, None)
        self.told(self.keyed(("in", (0,))), (), (), None)

    def test_the_first_key(self):
        facts = store("has a b, has a c, in a b, in c b")
        self.told(self.keyed(("has", (0,)), ("in", (1,))), (), facts, ("key", 0, ("has", "a", "b"), ("has", "a", "c")))
        self.told(self.keyed(("in", (1,)), ("has", (0,))), (), facts, ("key", 0, ("in", "a", "b"), ("in", "c", "b")))
        self.told(self.keyed(("in", (0,)), ("has", (1,)), ("in", (1,))), (), facts,
                  ("key", 2, ("in", "a", "b"), ("in", "c", "b")))

    def test_the_first_pair(self):
        facts = store("in a c, in b b, in c b, in d c, in e b")
        self.told(self.keyed(("in", (1,))), (), facts, ("key", 0, ("in", "a", "c"), ("in", "d", "c")))
        facts = store("in a d, in b b, in c b, in d c, in e b")
        self.told(self.keyed(("in", (1,))), (), facts, ("key", 0, ("in", "b", "b"), ("in", "c", "b")))
        facts = store("in a b, in b b, in c b")
        self.told(self.keyed(("in", (1,))), (), facts, ("key", 0, ("in", "a", "b"), ("in", "b", "b")))

    def test_a_rule_comes_ahead_of_a_key(self):
        facts = store("in a b, in a c")
        self.told(self.keyed(("in", (0,))), EMPS, facts, ("rule", 0, (("A", "ann"), ("B", "rome"))))
        self.told(self.keyed(("in", (0,))), (), facts, ("key", 0, ("in", "a", "b"), ("in", "a", "c")))

    def test_all_columns(self):
        self.told(self.keyed(("in", (0, 1))), (), store("in a b, in a c, in b b"), None)
        one = ((rule("p A", "u A"),), (("u", (0,)),))
        self.told(one, (), store("u a, u b"), None)

    def test_several_columns(self):
        book = ((rule("p A", "w A B C"),), (("w", (0, 2)),))
        self.told(book, (), store("w a a b, w a b a, w b a a"), None)
        self.told(book, (), store("w a a b, w a b a, w a c a, w b a a"),
                  ("key", 0, ("w", "a", "b", "a"), ("w", "a", "c", "a")))
        self.told(book, (), store("w a a b, w a b b, w a c a"), ("key", 0, ("w", "a", "a", "b"), ("w", "a", "b", "b")))

    def test_unknowns_are_values_like_others(self):
        book = self.keyed(("in", (0,)))
        self.told(book, (), store("in ?1 a, in ?2 b, in c d"), None)
        self.told(book, (), store("in ?1 a, in ?1 b"), ("key", 0, ("in", "?1", "a"), ("in", "?1", "b")))
        self.told(book, (), store("in a ?1, in a b"), ("key", 0, ("in", "a", "?1"), ("in", "a", "b")))
        self.told(book, (), store("in ?10 a, in ?2 a, in ?2 b"), ("key", 0, ("in", "?2", "a"), ("in", "?2", "b")))

    def test_facts_of_other_relations(self):
        book = self.keyed(("in", (0,)))
        self.told(book, (), store("at a b, at a c, has a b, has a c, in a b"), None)


class AllTest(unittest.TestCase):
    told = RuleTest.told

    def test_by_the_words_of_the_document(self):
        numbers = chance(33)
        kinds = []
        for _ in range(1500):
            book = some_book(numbers)
            source = some_source(numbers, book)
            facts = slow_handed(book, source) or ()
            new = {f"?{number}": numbers.choice(["?1", "?2", "?3", "a", "b"]) for number in range(100, 130)}
            more = some_facts(numbers, 4, ["a", "b", "?1"], HEAD_WIDTHS)
            other = some_facts(numbers, 2, ["a", "b"], BODY_WIDTHS)
            facts = tuple(sorted(set(swapped(facts, new)) | set(more) | set(other)))
            if facts and not numbers.randrange(3):
                gone = numbers.choice(facts)
                facts = tuple(fact for fact in facts if fact != gone)
            self.told(book, source, facts, slow_broken(book, source, facts))
            kinds.append((broken(book, source, facts) or ("none",))[0])
        for kind in ("rule", "key", "none"):
            self.assertGreater(kinds.count(kind), 30)


if __name__ == "__main__":
    unittest.main()
