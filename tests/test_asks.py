import itertools
import unittest

from corestore.asks import is_way, least_question, telling, way, within
from corestore.questions import answers
from corestore.stores import is_store, unknowns
from helper import HEAD_WIDTHS, ODD_VALUES, ask, chance, letters, slow_answers, some_facts, some_question, swapped

Q = ask("A", "has A B")
P = ask("A", "has A B, has A C, in B D")
WAY = (("A", "A"), ("B", "C"))


def slow_ways(one, other):
    """All ways of one into other, by trying all terms for each variable."""
    terms = sorted({term for atom in one[1] for term in atom[1:]})
    names = letters(other[1])
    tried = [tuple(zip(names, row)) for row in itertools.product(terms, repeat=len(names))]
    return [pairs for pairs in tried if set(swapped(other[1], dict(pairs))) <= set(one[1])
            and tuple(dict(pairs)[name] for name in other[0]) == one[0]]


def slow_least_question(question):
    """least_question, word by word."""
    out, atoms = question[0], list(question[1])
    number = 0
    while number < len(atoms):
        left = atoms[:number] + atoms[number + 1:]
        if set(out) <= set(letters(left)) and left and slow_ways((out, tuple(left)), (out, tuple(atoms))):
            atoms = left
        else:
            number += 1
    return out, tuple(atoms)


def some_pair(numbers):
    """Two questions with as many items in out; the second one often is a part of the first one, renamed."""
    one = some_question(numbers)
    if numbers.randrange(2):
        table = {name: numbers.choice("ABCD") for name in letters(one[1])}
        if numbers.randrange(3) == 0:
            table = {**table, **{"a": numbers.choice("aA")}}
        atoms = [swapped((atom,), table)[0] for atom in one[1]]
        kept = tuple(numbers.sample(atoms, numbers.randrange(1, len(atoms) + 1)))
        out = tuple(table[name] for name in one[0])
        if set(out) <= set(letters(kept)):
            return one, (out, kept)
    other = some_question(numbers)
    while len(other[0]) != len(one[0]):
        other = some_question(numbers)
    return one, other


class Base(unittest.TestCase):
    def is_within(self, one, other):
        """One is within other, and all functions say so."""
        self.assertIs(within(one, other), True, (one, other))
        pairs = way(one, other)
        self.assertIsInstance(pairs, tuple)
        self.assertIn(pairs, slow_ways(one, other))
        self.assertIs(is_way(one, other, pairs), True)
        self.assertIsNone(telling(one, other))

    def is_not_within(self, one, other):
        """One is not within other, and a store tells so."""
        self.assertIs(within(one, other), False, (one, other))
        self.assertIsNone(way(one, other))
        told = telling(one, other)
        self.assertIsInstance(told, tuple)
        facts, answer = told
        self.assertTrue(is_store(facts))
        self.assertLessEqual(len(facts), 10)
        self.assertEqual(unknowns(facts), ())
        self.assertIn(answer, slow_answers(one, facts))
        self.assertNotIn(answer, slow_answers(other, facts))
        return facts

    def are_alike(self, one, other):
        self.is_within(one, other)
        self.is_within(other, one)

    def is_less(self, one, other):
        self.is_within(one, other)
        self.is_not_within(other, one)


class WithinTest(Base):
    def test_the_example(self):
        self.assertIs(within(P, Q), True)
        self.assertIs(within(Q, P), False)
        self.assertIn(way(P, Q), [(("A", "A"), ("B", "B")), (("A", "A"), ("B", "C"))])
        self.is_less(P, Q)

    def test_a_question_and_itself(self):
        for question in (P, Q, ask("", "u a"), ask("A B", "v A B, v B A"), ask("A A", "u A, u A")):
            self.are_alike(question, question)

    def test_other_names(self):
        self.are_alike(Q, ask("Z", "has Z A"))
        self.are_alike(Q, ask("B", "has B A"))
        self.are_alike(ask("A B", "v A B"), ask("B A", "v B A"))
        self.is_not_within(ask("A B", "v A B"), ask("B A", "v A B"))
        self.is_not_within(ask("A", "v A B"), ask("B", "v A B"))

    def test_out_of_each_length(self):
        self.is_less(ask("", "v A B, u A"), ask("", "v A B"))
        self.is_less(ask("A", "v A B, u A"), ask("A", "v A B"))
        self.is_less(ask("A B", "v A B, u A"), ask("A B", "v A B"))
        self.is_less(ask("A B C", "w A B C, u A"), ask("A B C", "w A B C"))
        self.is_not_within(ask("A B C", "w A B C"), ask("A C B", "w A B C"))
        self.are_alike(ask("", "v A B, v B C"), ask("", "v C D, v A C"))

    def test_one_variable_twice_in_out(self):
        self.is_less(ask("A A", "v A A"), ask("A B", "v A B"))
        self.is_within(ask("A A", "v A B"), ask("C C", "v C D"))
        self.is_within(ask("A A", "v A B"), ask("A B", "v A C, v B D"))
        self.is_not_within(ask("A B", "v A C, v B D"), ask("A A", "v A B"))
        self.is_not_within(ask("A B A", "v A B"), ask("A B B", "v A B"))
        self.is_less(ask("A A A", "u A"), ask("A B A", "u A, u B"))

    def test_constants_in_atoms(self):
        self.is_less(ask("A", "v A a"), ask("A", "v A B"))
        self.are_alike(ask("A", "v A a"), ask("B", "v B a"))
        self.is_not_within(ask("A", "v A a"), ask("A", "v A b"))
        self.is_less(ask("A", "w A a a"), ask("A", "w A B B"))
        self.is_not_within(ask("A", "w A a b"), ask("A", "w A B B"))
        self.is_less(ask("A", "v A B, v A a, u B"), ask("A", "v A a, u C"))
        self.assertEqual(way(ask("A", "w A a b"), ask("A", "w A C D")), (("A", "A"), ("C", "a"), ("D", "b")))
        self.are_alike(ask("A", "v A a, v A B"), ask("A", "v A a"))
        # A variable of out leads to a variable of out, not to a constant.
        self.is_not_within(ask("A", "u A, v a B"), ask("A", "v A B"))

    def test_one_variable_in_several_places(self):
        self.is_less(ask("A", "v A A"), ask("A", "v A B"))
        self.is_less(ask("", "v A A"), ask("", "v A B, v B C, v C A"))
        self.is_not_within(ask("", "v A B, v B A"), ask("", "v A B, v B C, v C A"))
        self.is_less(ask("", "v A B, v B A"), ask("", "v A B, v B C, v C D, v D A"))
        self.is_less(ask("A", "w A B A"), ask("A", "w A B C"))
        self.is_less(ask("A B", "v A B, u A, u B"), ask("A B", "v A B, u B"))

    def test_relations_that_the_other_question_does_not_have(self):
        self.is_not_within(ask("A", "u A"), ask("A", "v A B"))
        self.is_not_within(ask("A", "v A B"), ask("A", "u A"))
        self.is_less(ask("A", "u A, v A B"), ask("A", "u A"))
        self.is_not_within(ask("A", "has A B"), ask("A", "has A"))
        self.is_not_within(ask("A", "has A"), ask("A", "has A B"))
        self.is_not_within(ask("A", "has A A A A"), ask("A", "has A A A"))
        self.is_less(ask("A", "u A, has A B"), ask("A", "u A"))
        self.is_not_within(ask("A", "out A B"), ask("A", "out B A"))

    def test_four_atoms(self):
        path = ask("A D", "v A B, v B C, v C D")
        self.is_less(ask("A D", "v A B, v B C, v C D, u B"), path)
        self.is_less(ask("A A", "v A B, v B C, v C A"), path)
        self.is_less(ask("A D", "v A B, v B B, v B D, v B C"), path)
        self.is_not_within(ask("A D", "v A B, v B D"), path)
        self.are_alike(ask("A", "v A B, v A C, v A D, v A A"), ask("A", "v A A"))

    def test_all_by_the_words_of_the_document(self):
        numbers = chance(51)
        seen = {True: 0, False: 0}
        for _ in range(900):
            one, other = some_pair(numbers)
            fits = bool(slow_ways(one, other))
            seen[fits] += 1
            (self.is_within if fits else self.is_not_within)(one, other)
        self.assertGreater(min(seen.values()), 200)

    def test_in_many_stores(self):
        numbers = chance(52)
        some = 0
        for _ in range(1500):
            one, other = some_pair(numbers)
            facts = some_facts(numbers, 9, ["a", "b", "?1"], HEAD_WIDTHS)
            if within(one, other):
                rows = slow_answers(one, facts)
                self.assertLessEqual(set(rows), set(slow_answers(other, facts)))
                some += bool(rows)
        self.assertGreater(some, 100)


class IsWayTest(Base):
    def no_ways(self, one, other, *values):
        for value in values:
            self.assertIs(is_way(one, other, value), False, value)

    def test_the_example(self):
        self.assertIs(is_way(P, Q, (("A", "A"), ("B", "B"))), True)
        self.assertIs(is_way(P, Q, WAY), True)
        self.no_ways(P, Q, (("A", "A"), ("B", "D")), (("A", "B"), ("B", "D")), (("A", "A"), ("B", "A")))

    def test_pairs_that_are_missing_or_too_many(self):
        self.no_ways(P, Q, (), WAY[:1], WAY[1:], WAY + (("C", "B"),), WAY + (("D", "D"),), (("?1", "B"),) + WAY)
        self.no_ways(P, Q, WAY + (("has", "has"),), WAY + ((),), (("A", "A", "A"), ("B", "B")), (("A",), ("B", "B")))

    def test_pairs_twice_or_out_of_order(self):
        self.no_ways(P, Q, WAY + WAY[1:], WAY[:1] + WAY, (WAY[1], WAY[0]), (("A", "A"), ("B", "B"), ("B", "C")))

    def test_other_terms(self):
        self.no_ways(P, Q, (("A", "A"), ("B", "E")), (("A", "A"), ("B", "ann")), (("A", "A"), ("B", "?1")))
        self.no_ways(P, Q, (("A", "A"), ("B", 1)), (("A", "A"), ("B", None)), (("A", True), ("B", "B")))
        self.no_ways(P, Q, (("A", "A"), ("B", ["B"])), (("A", ("A",)), ("B", "B")), (("a", "A"), ("b", "B")))

    def test_terms_that_do_not_stand_in_the_first_question(self):
        one, other = ask("A", "v A B"), ask("A", "v A B, u C")
        for term in ("A", "B", "C", "a"):
            self.no_ways(one, other, (("A", "A"), ("B", "B"), ("C", term)))

    def test_out_does_not_fit(self):
        one, other = ask("A", "v A B, v B A"), ask("A", "v A B")
        self.assertIs(is_way(one, other, (("A", "A"), ("B", "B"))), True)
        self.no_ways(one, other, (("A", "B"), ("B", "A")))
        one, other = ask("A A", "v A B, v B A"), ask("A B", "v A C, v B D")
        self.assertIs(is_way(one, other, (("A", "A"), ("B", "A"), ("C", "B"), ("D", "B"))), True)
        self.no_ways(one, other, (("A", "A"), ("B", "B"), ("C", "B"), ("D", "A")))

    def test_constants(self):
        one, other = ask("A", "v A a, v A B"), ask("A", "v A B")
        self.assertIs(is_way(one, other, (("A", "A"), ("B", "a"))), True)
        self.assertIs(is_way(one, ask("A", "v A a"), (("A", "A"),)), True)
        self.no_ways(one, ask("A", "v A a"), (("A", "A"), ("a", "a")), (("A", "A"), ("a", "B")))
        self.no_ways(one, ask("A", "v A b"), (("A", "A"),), (("A", "A"), ("b", "a")))

    def test_questions_without_variables(self):
        self.assertIs(is_way(ask("", "u a, v A B"), ask("", "u a"), ()), True)
        self.assertIs(is_way(ask("", "u b"), ask("", "u a"), ()), False)
        self.no_ways(ask("", "u a"), ask("", "u a"), [], None, ((),), (("a", "a"),))

    def test_lists_in_the_place_of_tuples(self):
        self.no_ways(P, Q, list(WAY), (["A", "A"], ("B", "B")), [["A", "A"], ["B", "B"]], (("A", "A"), ["B", "B"]))
        self.no_ways(P, Q, dict(WAY), {"A": "A"}, "AABB", ("AA", "BB"))

    def test_values_that_are_no_ways(self):
        for value in ODD_VALUES:
            self.no_ways(P, Q, value, (value, value), (("A", "A"), ("B", value)), (("A", "A"), (value, "B")))
            self.no_ways(P, Q, (WAY[0], value), [WAY[0], value])

    def test_just_the_ways(self):
        numbers = chance(53)
        some = 0
        for _ in range(200):
            one, other = some_pair(numbers)
            ways = slow_ways(one, other)
            names = letters(other[1])
            for row in itertools.product(["A", "B", "C", "a", "b"], repeat=len(names)):
                pairs = tuple(zip(names, row))
                self.assertIs(is_way(one, other, pairs), pairs in ways)
            some += bool(ways)
        self.assertGreater(some, 30)


class TellingTest(Base):
    def test_words_of_the_package_are_not_those_of_the_questions(self):
        # Each word that was taken for a variable is made a constant of the questions; another one has to be taken.
        taken = []
        for _ in range(30):
            other = ask("", f"v {taken[-1]} B") if taken else ask("", "v A A")
            facts = self.is_not_within(ask("", "v A B"), other)
            taken.append(facts[0][1])

    def test_words_of_the_first_question(self):
        word = "a"
        for _ in range(30):
            # With the constant for A, too, the one atom would be of the form of the other one.
            facts = self.is_not_within(ask("A", f"v A {word}"), ask("A", "v A A"))
            word = facts[0][1]

    def test_the_constants_are_all_that_they_have(self):
        self.is_not_within(ask("", "v a b"), ask("", "v b a"))
        self.is_not_within(ask("", "v a b, u a"), ask("", "v a b, u b"))
        self.is_less(ask("", "v a b, u a"), ask("", "v a b"))
        self.is_not_within(ask("", "v A B"), ask("", "v a b"))
        self.is_less(ask("", "v a b"), ask("", "v A B"))

    def test_atoms_that_must_not_become_one_fact(self):
        self.is_not_within(ask("A B", "u A, u B"), ask("A A", "u A"))
        self.is_not_within(ask("", "v A B, v C D"), ask("", "v A A"))
        self.is_not_within(ask("A", "v A B, v A a"), ask("A", "v A B, u B"))


class LeastQuestionTest(Base):
    def left(self, question, least):
        self.assertEqual(least_question(question), least)
        self.assertEqual(least_question(least), least)
        self.are_alike(question, least)

    def test_the_example(self):
        self.left(P, ask("A", "has A B, in B D"))
        self.left(Q, Q)

    def test_atoms_twice(self):
        self.left(ask("A", "u A, u A"), ask("A", "u A"))
        self.left(ask("A", "u A, v A B, u A, u A"), ask("A", "v A B, u A"))
        self.left(ask("", "u a, u a"), ask("", "u a"))

    def test_the_first_of_two_is_left_out(self):
        self.left(ask("A", "v A B, v A C"), ask("A", "v A C"))
        self.left(ask("A", "v A C, v A B"), ask("A", "v A B"))
        self.left(ask("A", "v A B, u B, v A C, u C"), ask("A", "v A C, u C"))
        self.left(ask("", "u A, u B, u C, u D"), ask("", "u D"))

    def test_each_is_asked_for_as_the_question_is_then(self):
        # Of the first and the second atom each alone can be left out, but not both.
        self.left(ask("A", "v A B, v A C, u A"), ask("A", "v A C, u A"))
        self.left(ask("A B", "v A B, v A C, v C B, v A D"), ask("A B", "v A B, v A C, v C B"))

    def test_variables_of_out_stay(self):
        self.left(ask("A B", "v A C, v B D"), ask("A B", "v A C, v B D"))
        self.left(ask("A B", "u A, u B"), ask("A B", "u A, u B"))
        self.left(ask("A", "u B, u A"), ask("A", "u A"))
        self.left(ask("A A", "u A, u B, u A"), ask("A A", "u A"))
        self.left(ask("B", "v A B, v A C"), ask("B", "v A B"))
        self.left(ask("A", "u A"), ask("A", "u A"))

    def test_constants(self):
        self.left(ask("A", "v A a, v A B"), ask("A", "v A a"))
        self.left(ask("A", "v A B, v A a"), ask("A", "v A a"))
        self.left(ask("A", "v A b, v A a"), ask("A", "v A b, v A a"))
        self.left(ask("", "v a B, v a b, v A b"), ask("", "v a b"))

    def test_out_stays(self):
        self.left(ask("B A B", "v A B, v A C, v C C"), ask("B A B", "v A B, v A C, v C C"))
        self.left(ask("B A B", "v A B, v A C"), ask("B A B", "v A B"))
        self.left(ask("", "v A B, v C C"), ask("", "v C C"))

    def test_all_by_the_words_of_the_document(self):
        numbers = chance(54)
        less = 0
        for _ in range(700):
            question = some_question(numbers)
            self.left(question, slow_least_question(question))
            less += len(least_question(question)[1]) < len(question[1])
        self.assertGreater(less, 100)

    def test_the_same_answers(self):
        numbers = chance(55)
        for _ in range(300):
            question = some_question(numbers)
            facts = some_facts(numbers, 9, ["a", "b", "?1"], HEAD_WIDTHS)
            self.assertEqual(answers(least_question(question), facts), slow_answers(question, facts))


if __name__ == "__main__":
    unittest.main()
