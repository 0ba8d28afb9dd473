import itertools
import unittest

from corestore.cores import core, folding
from corestore.leads import lead
from corestore.stores import is_store, plain
from corestore.sums import beside, beside_all
from helper import S, chance, numbered, slow_core, slow_leads, some_store, stand_in, store, swapped

RELATIONS = ("at", "by", "has")


def slow_beside(stores):
    """beside_all, word by word: each unknown is given a name that no other store has."""
    facts, many = set(), itertools.count(100)
    for one in stores:
        facts.update(swapped(one, {name: f"?{next(many)}" for name in stand_in(one)}))
    return slow_core(tuple(sorted(facts)))


def small_stores(numbers, many, facts=3, names=2):
    """Some stores, which often have unknowns and constants in common, of at most four unknowns together."""
    made = [some_store(numbers, numbered(names), ["a", "b"], numbers.randrange(facts + 1), RELATIONS)
            for _ in range(many)]
    return tuple(made) if sum(len(stand_in(one)) for one in made) < 5 else small_stores(numbers, many, facts, names)


class BesideTest(unittest.TestCase):
    def told(self, one, other, text):
        """Of the two stores, in either order, the store of the text comes."""
        made = store(text) if text else ()
        self.assertEqual(beside(one, other), made)
        self.assertEqual(beside(other, one), made)
        self.assertEqual(beside_all((one, other)), made)

    def test_unknowns_in_common_are_kept_apart(self):
        self.told(store("at ?1, in ?1 a"), store("at ?1, to ?1 b"), "at ?1, at ?2, in ?1 a, to ?2 b")
        self.told(store("by ?1 a"), store("by b ?1"), "by ?1 a, by b ?2")
        self.told(store("by ?1 a"), store("has ?1 a"), "by ?1 a, has ?2 a")
        self.told(store("by ?1 a, by ?2 b"), store("has ?2 a, has ?1 b"),
                  "by ?1 a, by ?2 b, has ?3 a, has ?4 b")

    def test_other_names_make_no_difference(self):
        for name in ("?1", "?2", "?3", "?10", "?99999"):
            for then in ("?1", "?2", "?3", "?10", "?99999"):
                self.told((("at", name), ("by", name, "a")), (("by", then, "b"), ("to", then)),
                          "at ?1, by ?1 a, by ?2 b, to ?2")

    def test_constants_in_common(self):
        self.told(store("by a b, at a"), store("by a c, at a"), "at a, by a b, by a c")
        self.told(store("by a ?1"), store("at a"), "at a, by a ?1")
        self.told(store("by a ?1"), store("by a b"), "by a b")

    def test_without_unknowns(self):
        self.told(store("by a b"), store("by a c, in a b c"), "by a b, by a c, in a b c")
        self.told(store("at a, at b"), store("at b, at c"), "at a, at b, at c")

    def test_without_facts(self):
        self.told((), (), "")
        self.told((), store("at a"), "at a")
        self.told((), S, "has ?1 ann, in ?1 rome")

    def test_a_store_that_leads_into_the_other_one_adds_nothing(self):
        one = store("by ?1 ?2, by ?2 ?1")
        self.assertIsNotNone(lead(store("by ?4 ?5"), one))
        self.told(store("by ?4 ?5"), one, "by ?1 ?2, by ?2 ?1")
        self.told(one, store("by a a"), "by a a")
        self.told(one, one, "by ?1 ?2, by ?2 ?1")
        self.told(S, S, "has ?1 ann, in ?1 rome")
        self.told(S, store("has eve ann, in eve rome"), "has eve ann, in eve rome")

    def test_the_result_is_the_core(self):
        self.told(store("by a ?1, by a ?2"), store("at ?1"), "at ?1, by a ?2")
        # The path folds onto the fact of one unknown alone.
        self.told(store("by ?1 ?2, by ?2 ?3"), store("has a b, by ?7 ?7"), "by ?1 ?1, has a b")

    def test_at_the_limits(self):
        one = store("by ?1 ?2, by ?2 ?3, by ?3 ?1, at ?1, has a b, has b c, has c d, has d e")
        other = store("by ?1 ?2, by ?2 ?1, has ?1 a, to a b c d, to b c d e, to c d e f, to d e f g, has e f")
        self.assertEqual((len(one + other), len(stand_in(one)) + len(stand_in(other))), (16, 5))
        made = beside(one, other)
        self.assertEqual(made, beside(other, one))
        self.assertEqual(len(made), 16)
        self.assertTrue(is_store(made))

    def test_both_lead_into_it_and_it_into_all_such(self):
        numbers = chance(61)
        some = 0
        for _ in range(500):
            one, other = small_stores(numbers, 2)
            made = beside(one, other)
            self.assertIsNone(folding(made))
            self.assertEqual(plain(made), made)
            self.assertTrue(slow_leads(one, made) and slow_leads(other, made))
            third = some_store(numbers, ["?1"], ["a", "b"], 7, RELATIONS)
            both = bool(slow_leads(one, third) and slow_leads(other, third))
            self.assertIs(lead(made, third) is not None, both)
            some += both
        self.assertGreater(some, 50)

    def test_all_by_the_words_of_the_document(self):
        numbers = chance(62)
        for _ in range(400):
            one, other = small_stores(numbers, 2, 4)
            self.assertEqual(beside(one, other), slow_beside((one, other)))
            self.assertEqual(beside(other, one), beside(one, other))


class BesideAllTest(unittest.TestCase):
    def test_none(self):
        self.assertEqual(beside_all(()), ())

    def test_one_store(self):
        self.assertEqual(beside_all((S,)), (("has", "?1", "ann"), ("in", "?1", "rome")))
        self.assertEqual(beside_all((store("at ?7, by ?7 a"),)), store("at ?1, by ?1 a"))
        self.assertEqual(beside_all(((),)), ())

    def test_three_stores(self):
        stores = (store("at ?1, by ?1 a"), store("at ?1, by ?1 b"), store("at ?1, by ?1 c"))
        made = store("at ?1, at ?2, at ?3, by ?1 a, by ?2 b, by ?3 c")
        for row in itertools.permutations(stores):
            self.assertEqual(beside_all(row), made)
        self.assertEqual(beside_all(stores + ((),)), made)
        self.assertEqual(beside_all(stores + stores[:1]), made)
        self.assertEqual(beside_all((store("at a"), store("at b"), store("at c, at a"))), store("at a, at b, at c"))

    def test_five_stores(self):
        stores = tuple((("by", "?1", sign), ("has", sign, "?1")) for sign in "abcde")
        self.assertEqual(len(beside_all(stores)), 10)
        self.assertEqual(beside_all(stores), beside_all(tuple(reversed(stores))))

    def test_all_by_the_words_of_the_document(self):
        numbers = chance(63)
        for _ in range(300):
            stores = small_stores(numbers, 3)
            made = beside_all(stores)
            self.assertEqual(made, slow_beside(stores))
            self.assertEqual(made, beside(beside(stores[0], stores[1]), stores[2]))
            self.assertEqual(beside_all(stores[:1]), core(stores[0]))


if __name__ == "__main__":
    unittest.main()
