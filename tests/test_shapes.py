import itertools
import unittest

from corestore.cores import core
from corestore.desk import Handing
from corestore.questions import answers
from corestore.shapes import Shape
from corestore.sums import beside, beside_all
from helper import (B, HEAD_WIDTHS, ODD_VALUES, S, ask, chance, numbered, slow_core, slow_leads, some_facts,
                    some_question, some_store, stand_in, store)

EVE = (("has", "eve", "ann"), ("in", "eve", "rome"))
LEAST = (("has", "?1", "ann"), ("in", "?1", "rome"))
RELATIONS = ("at", "by", "has")


def small_store(numbers, names=2):
    return some_store(numbers, numbered(names), ["a", "b"], numbers.randrange(4), RELATIONS)


class StoreTest(unittest.TestCase):
    def test_the_store_is_the_core(self):
        self.assertEqual(Shape(S).store, LEAST)
        self.assertEqual(Shape(store=S).store, LEAST)
        self.assertEqual(Shape(()).store, ())
        self.assertEqual(Shape(EVE).store, EVE)
        self.assertEqual(Shape(store("by ?7 ?8, by ?8 ?9")).store, store("by ?1 ?2, by ?2 ?3"))
        self.assertIsInstance(Shape(S).store, tuple)

    def test_by_the_words_of_the_document(self):
        numbers = chance(111)
        for _ in range(200):
            one = some_store(numbers, numbered(3), ["a", "b"], numbers.randrange(7), RELATIONS)
            self.assertEqual(Shape(one).store, slow_core(one))

    def test_the_store_cannot_be_assigned(self):
        self.assertIsInstance(Shape.store, property)
        with self.assertRaises(AttributeError):
            Shape(S).store = ()


class OrTest(unittest.TestCase):
    def test_two(self):
        one, other = Shape(store("by ?1 a")), Shape(store("by ?1 b"))
        both = one | other
        self.assertIsInstance(both, Shape)
        self.assertEqual(both.store, store("by ?1 a, by ?2 b"))
        self.assertEqual((other | one).store, both.store)
        # The two go on as they were.
        self.assertEqual((one.store, other.store), (store("by ?1 a"), store("by ?1 b")))

    def test_the_result_is_the_core(self):
        self.assertEqual((Shape(S) | Shape(EVE)).store, EVE)
        self.assertEqual((Shape(S) | Shape(S)).store, LEAST)
        self.assertEqual((Shape(()) | Shape(S)).store, LEAST)
        self.assertEqual((Shape(()) | Shape(())).store, ())

    def test_over_and_over(self):
        shapes = [Shape((("by", "?1", sign), ("has", sign, "?1"))) for sign in "abcd"]
        made = shapes[0] | shapes[1] | shapes[2] | shapes[3]
        self.assertEqual(len(made), 8)
        self.assertEqual(made.store, beside_all(tuple(shape.store for shape in shapes)))
        self.assertEqual(made, shapes[3] | (shapes[2] | (shapes[1] | shapes[0])))
        self.assertEqual(made | Shape(()), made)
        for shape in shapes:
            self.assertEqual(len(shape), 2)
            self.assertTrue(shape.leads(made))
            self.assertEqual(made | shape, made)
        one = shapes[0]
        one |= shapes[1]
        self.assertEqual(one.store, beside(shapes[0].store, shapes[1].store))
        self.assertEqual(len(shapes[0]), 2)

    def test_as_beside(self):
        numbers = chance(112)
        for _ in range(300):
            one, other = small_store(numbers), small_store(numbers)
            both = Shape(one) | Shape(other)
            self.assertEqual(both.store, beside(one, other))
            self.assertTrue(Shape(one).leads(both) and Shape(other).leads(both))


class LeadsTest(unittest.TestCase):
    def test_in_both_directions(self):
        self.assertIs(Shape(S).leads(Shape(EVE)), True)
        self.assertIs(Shape(EVE).leads(Shape(S)), False)
        self.assertIs(Shape(S).leads(Shape(S)), True)
        self.assertIs(Shape(()).leads(Shape(S)), True)
        self.assertIs(Shape(S).leads(Shape(())), False)
        loop, pair = Shape(store("by ?1 ?1")), Shape(store("by ?1 ?2, by ?2 ?1"))
        self.assertEqual((pair.leads(loop), loop.leads(pair)), (True, False))
        self.assertIs(Shape(store("at a")).leads(Shape(store("at b"))), False)

    def test_by_the_words_of_the_document(self):
        numbers = chance(113)
        seen = set()
        for _ in range(300):
            one, other = small_store(numbers, 3), small_store(numbers, 3)
            leads = Shape(one).leads(Shape(other))
            self.assertIs(leads, bool(slow_leads(one, other)))
            seen.add(leads)
        self.assertEqual(seen, {True, False})


class AnswersTest(unittest.TestCase):
    def test_ordinary(self):
        self.assertEqual(Shape(S).answers(ask("A", "has B A")), (("ann",),))
        self.assertEqual(Shape(S).answers(ask("A", "has A B")), ())
        self.assertEqual(Shape(S).answers(ask("", "has A B, in A rome")), ((),))
        self.assertEqual(Shape(EVE).answers(ask("A B", "has A B")), (("eve", "ann"),))
        self.assertEqual(Shape(()).answers(ask("A", "has A B")), ())

    def test_as_in_the_store(self):
        numbers = chance(114)
        for _ in range(200):
            facts = some_facts(numbers, 6, ["a", "b", "?1", "?2"], HEAD_WIDTHS)
            question = some_question(numbers)
            self.assertEqual(Shape(facts).answers(question), answers(question, core(facts)))
            self.assertEqual(Shape(facts).answers(question), answers(question, facts))


class EqualTest(unittest.TestCase):
    def equal(self, one, other, truth):
        for left, right in ((one, other), (other, one)):
            self.assertIs(left == right, truth)
            self.assertIs(left != right, not truth)

    def test_the_same_but_for_names(self):
        self.equal(Shape(S), Shape(S), True)
        self.equal(Shape(S), Shape(store("has ?9 ann, in ?9 rome")), True)
        self.equal(Shape(store("by ?1 ?2, at ?2")), Shape(store("by ?2 ?1, at ?1")), True)
        self.equal(Shape(()), Shape(()), True)
        one = Shape(S)
        self.equal(one, one, True)

    def test_another_store(self):
        self.equal(Shape(S), Shape(EVE), False)
        self.equal(Shape(S), Shape(()), False)
        self.equal(Shape(store("by ?1 ?2")), Shape(store("by ?1 ?1")), False)
        self.equal(Shape(store("by a ?1")), Shape(store("by ?1 a")), False)

    def test_other_values(self):
        for value in ODD_VALUES + (S, LEAST, EVE, Handing(B), Shape):
            self.equal(Shape(S), value, False)
            self.equal(Shape(()), value, False)

    def test_all(self):
        numbers = chance(115)
        for _ in range(200):
            one, other = small_store(numbers), small_store(numbers)
            self.equal(Shape(one), Shape(other), slow_core(one) == slow_core(other))


class InTest(unittest.TestCase):
    def test_facts(self):
        made = Shape(store("has ?1 ann, in ?1 rome, lead eve bob"))
        self.assertIs(("lead", "eve", "bob") in made, True)
        self.assertIs(("lead", "bob", "eve") in made, False)
        self.assertIs(("lead", "eve") in made, False)
        self.assertIs(("lead", "eve", "bob", "bob") in made, False)
        self.assertIs(("lead", "eve", "bob") not in made, False)
        for fact in EVE:
            self.assertIs(fact in Shape(EVE), True)
            self.assertIs(fact in Shape(()), False)

    def test_facts_with_unknowns(self):
        made = Shape(S)
        for fact in made.store + S:
            self.assertIs(fact in made, False)
            self.assertIs(fact not in made, True)
        self.assertIs(("in", "a", "?1") in Shape(store("in a ?1")), False)

    def test_facts_that_the_core_does_not_have(self):
        self.assertIs(("by", "a", "b") in Shape(store("by a b, by a ?1")), True)
        self.assertIs(("by", "a", "?1") in Shape(store("by a b, by a ?1")), False)

    def test_values_of_all_kinds(self):
        made = Shape(EVE)
        for value in ODD_VALUES + (EVE, list(EVE[0]), [EVE[0]], (EVE[0],), "has", Shape(EVE), Shape, Handing(B)):
            self.assertIs(value in made, False)
            self.assertIs(value in Shape(()), False)


class ManyTest(unittest.TestCase):
    def test_len(self):
        for facts in ((), S, EVE, store("by ?1 ?2, by ?2 ?3")):
            self.assertEqual(len(Shape(facts)), len(core(facts)))
        self.assertEqual(len(Shape(S)), 2)

    def test_iteration(self):
        made = Shape(S)
        self.assertEqual(list(made), list(LEAST))
        self.assertEqual(tuple(made), LEAST)
        self.assertEqual([fact for fact in made], list(LEAST))
        self.assertEqual(list(Shape(())), [])

    def test_one_iteration_within_another(self):
        made = Shape(store("at a, at b, at c"))
        pairs = [(one, other) for one in made for other in made]
        self.assertEqual(pairs, list(itertools.product(made.store, made.store)))
        one = iter(made)
        next(one)
        self.assertEqual(list(made), list(made.store))
        self.assertEqual(list(one), list(made.store[1:]))

    def test_nothing_is_changed(self):
        given = store("has ?3 ann, has ?7 ann, in ?3 rome")
        one, other = Shape(given), Shape(EVE)
        for _ in range(2):
            self.assertEqual((one | other).store, EVE)
            self.assertTrue(one.leads(other))
            self.assertEqual(one.answers(ask("A", "has B A")), (("ann",),))
            self.assertEqual((one == other, one != other, ("at", "a") in one), (False, True, False))
            self.assertEqual((one.store, list(one), len(one)), (LEAST, list(LEAST), 2))
        self.assertEqual(given, S)


if __name__ == "__main__":
    unittest.main()
