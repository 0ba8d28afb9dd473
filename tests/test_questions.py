import unittest

from corestore.errors import Clash
from corestore.handing import has_right, least
from corestore.questions import answers, sure
from helper import (B, HEAD_WIDTHS, R, ask, chance, rule, slow_answers, slow_broken, slow_handed, some_book, some_facts,
                    some_question, some_source, store)

TWO = (("emp", "ann", "rome"), ("emp", "bob", "rome"))


class AnswersTest(unittest.TestCase):
    def told(self, question, facts, *rows):
        self.assertEqual(answers(question, facts), tuple(tuple(row.split()) for row in rows))

    def test_ordinary(self):
        facts = store("in a rome, in b oslo, in c rome, lead c a")
        self.told(ask("A", "in A rome"), facts, "a", "c")
        self.told(ask("A B", "in A B"), facts, "a rome", "b oslo", "c rome")
        self.told(ask("B A", "in A B"), facts, "oslo b", "rome a", "rome c")
        self.told(ask("B", "in A B"), facts, "oslo", "rome")
        self.told(ask("A C", "in A B, in C B, lead A C"), facts, "c a")
        self.told(ask("A B C", "in A B, in C B"), facts, "a rome a", "a rome c", "b oslo b", "c rome a", "c rome c")

    def test_no_answers(self):
        facts = store("in a rome, lead a b")
        self.told(ask("A", "in A oslo"), facts)
        self.told(ask("A", "in A B, lead B A"), facts)
        self.told(ask("A", "in A B"), ())
        self.told(ask("", "in A oslo"), facts)
        self.told(ask("", "in A B"), ())
        self.told(ask("A", "in A rome, lead b a"), facts)

    def test_the_answer_without_values(self):
        facts = store("in a rome, in ?1 oslo")
        self.told(ask("", "in a rome"), facts, "")
        self.told(ask("", "in A B"), facts, "")
        self.told(ask("", "in A oslo"), facts, "")
        self.told(ask("", "in A oslo, in B rome"), facts, "")

    def test_one_variable_twice_in_out(self):
        facts = store("in a rome, in b oslo")
        self.told(ask("A A", "in A B"), facts, "a a", "b b")
        self.told(ask("A B A", "in A B"), facts, "a rome a", "b oslo b")
        self.told(ask("B B B", "in A B"), facts, "oslo oslo oslo", "rome rome rome")

    def test_one_variable_in_several_places(self):
        facts = store("in a a, in a b, in b c, u a, w a b a, w b a a")
        self.told(ask("A", "in A A"), facts, "a")
        self.told(ask("A B", "w A B A"), facts, "a b")
        self.told(ask("A C", "in A B, in B C"), facts, "a a", "a b", "a c")
        self.told(ask("A", "in A A, in A B, in B A, u A"), facts, "a")

    def test_constants_in_atoms(self):
        facts = store("w a b c, w a c c, w b b c")
        self.told(ask("A", "w A b c"), facts, "a", "b")
        self.told(ask("B", "w a B c"), facts, "b", "c")
        self.told(ask("A", "w A b c, w A c c"), facts, "a")
        self.told(ask("A", "w A b d"), facts)

    def test_relations_that_the_store_does_not_have(self):
        facts = store("in a rome")
        self.told(ask("A", "lead A B"), facts)
        self.told(ask("A", "in A B, u A"), facts)
        self.told(ask("A", "in A"), facts)
        self.told(ask("A", "in A B C"), facts)
        self.told(ask("A", "in A rome rome"), facts)
        self.told(ask("", "in a"), facts)

    def test_no_answer_has_an_unknown(self):
        facts = store("in ?1 rome, in a ?2, in b oslo, u ?1, u b")
        self.told(ask("A", "in A B"), facts, "a", "b")
        self.told(ask("B", "in A B"), facts, "oslo", "rome")
        self.told(ask("A B", "in A B"), facts, "b oslo")
        self.told(ask("B", "in A B, u A"), facts, "oslo", "rome")
        self.told(ask("A", "u A"), facts, "b")
        self.told(ask("A", "u A"), store("u ?1"))
        self.told(ask("A B", "u A, u B"), facts, "b b")

    def test_unknowns_are_values_like_others(self):
        facts = store("in ?1 ?2, in ?2 c, in ?3 d")
        self.told(ask("B", "in A B"), facts, "c", "d")
        self.told(ask("C", "in A B, in B C"), facts, "c")
        self.told(ask("A B", "in C A, in D B, in D A"), store("in ?1 a, in ?1 b, in ?2 c"), "a a", "a b", "b a", "b b",
                  "c c")

    def test_order(self):
        facts = store("u b, u a, u ab, u aa")
        self.told(ask("A", "u A"), facts, "a", "aa", "ab", "b")

    def test_one_to_four_atoms(self):
        facts = store("in a b, in b c, in c d, in d e")
        self.told(ask("A B", "in A B, in B C, in C D"), facts, "a b", "b c")
        self.told(ask("A D", "in A B, in B C, in C D"), facts, "a d", "b e")
        self.told(ask("A", "in A B, in B C, in C D, in D e"), facts, "a")
        self.told(ask("", "in A B, in B C, in C D, in D A"), facts)

    def test_atoms_without_a_common_variable(self):
        facts = tuple(("u", sign) for sign in "abcdefghijklmnopqrstuvwxyz")
        rows = answers(ask("A B", "u A, u B, u C, u D"), facts)
        self.assertEqual(rows, tuple((one, other) for one in "abcdefghijklmnopqrstuvwxyz"
                                     for other in "abcdefghijklmnopqrstuvwxyz"))
        self.told(ask("A", "u A, u B, v C D"), facts)
        self.told(ask("A", "v A B, u C, u D"), store("u a, v b c"), "b")

    def test_all_by_the_words_of_the_document(self):
        numbers = chance(41)
        some = 0
        for _ in range(800):
            facts = some_facts(numbers, 9, ["a", "b", "?1", "?2"], HEAD_WIDTHS)
            question = some_question(numbers)
            self.assertEqual(answers(question, facts), slow_answers(question, facts), (question, facts))
            some += bool(answers(question, facts))
        self.assertGreater(some, 100)


class SureTest(unittest.TestCase):
    def test_ordinary(self):
        self.assertEqual(sure(B, TWO, ask("A", "has C A, in C rome")), (("ann",), ("bob",)))
        self.assertEqual(sure(B, TWO, ask("A B", "has C A, in C B")), (("ann", "rome"), ("bob", "rome")))
        self.assertEqual(sure(B, TWO, ask("A", "has A B")), ())
        self.assertEqual(sure(B, TWO, ask("A B", "has C A, has C B")), (("ann", "ann"), ("bob", "bob")))
        self.assertEqual(sure(B, TWO, ask("", "has C ann, in C rome")), ((),))
        self.assertEqual(sure(B, (), ask("", "has C ann")), ())
        self.assertEqual(sure(B, TWO, ask("A", "emp A B")), ())

    def test_keys_that_make_more_sure(self):
        question = ask("A B", "has C A, has C B")
        book = ((R,), (("in", (1,)),))
        self.assertEqual(sure(book, TWO, question),
                         (("ann", "ann"), ("ann", "bob"), ("bob", "ann"), ("bob", "bob")))
        rules = (rule("p A", "v A D, u D"), rule("q A B", "v A B"))
        source = store("p a, p c, q a b")
        self.assertEqual(sure((rules, ()), source, ask("A", "u A")), ())
        self.assertEqual(sure((rules, (("v", (0,)),)), source, ask("A", "u A")), (("b",),))
        self.assertEqual(sure((rules, (("v", (0,)),)), source, ask("A B", "v A B, u B")), (("a", "b"),))

    def test_no_store_is_right(self):
        book = ((rule("q A B", "v A B"),), (("v", (0,)),))
        with self.assertRaises(Clash):
            sure(book, store("q a b, q a c"), ask("A", "v A B"))
        with self.assertRaises(Clash):
            sure(book, store("q a b, q a c"), ask("", "w A B C"))
        self.assertEqual(sure(book, store("q a b"), ask("A", "v A B")), (("a",),))

    def test_as_in_the_least_store(self):
        numbers = chance(42)
        some = 0
        for _ in range(400):
            book = some_book(numbers, 3, 3)
            source = some_source(numbers, book)
            question = some_question(numbers)
            made = slow_handed(book, source)
            if made is None:
                self.assertRaises(Clash, sure, book, source, question)
            elif len({value for fact in made for value in fact[1:]}) < 8:
                rows = sure(book, source, question)
                self.assertEqual(rows, slow_answers(question, made))
                self.assertEqual(rows, answers(question, least(book, source)))
                some += bool(rows)
        self.assertGreater(some, 20)

    def test_they_are_answers_in_right_stores(self):
        numbers = chance(43)
        for _ in range(300):
            book = some_book(numbers)
            source = some_source(numbers, book)
            facts = some_facts(numbers, 12, ["a", "b", "c", "?1"], HEAD_WIDTHS)
            question = some_question(numbers)
            if slow_broken(book, source, facts) is None:
                self.assertTrue(has_right(book, source))
                self.assertLessEqual(set(sure(book, source, question)), set(slow_answers(question, facts)))


if __name__ == "__main__":
    unittest.main()
