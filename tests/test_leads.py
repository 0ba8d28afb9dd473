import copy
import unittest

from corestore.leads import is_lead, lead, same
from corestore.stores import plain, renamed, unknowns
from helper import ODD_VALUES, S, chance, numbered, slow_leads, slow_same, some_store, swapped

EVE = (("has", "eve", "ann"), ("in", "eve", "rome"))
RELATIONS = (("at", "by"), ("by",), ("at", "by", "in"), ("in", "to"), ("at", "has"))


def some_pair(numbers, most):
    """Two stores, so that about as many have a lead as have none."""
    relations = numbers.choice(RELATIONS)
    one = some_store(numbers, numbered(numbers.randrange(5)), ["a", "b"][:numbers.randrange(1, 3)],
                     numbers.randrange(most), relations)
    other = some_store(numbers, numbered(numbers.randrange(3)), ["a", "b"], numbers.randrange(14), relations)
    return one, other


class LeadTest(unittest.TestCase):
    def fits(self, one, other):
        """lead returns a lead that the document and is_lead accept."""
        pairs = lead(one, other)
        self.assertIsInstance(pairs, tuple)
        for pair in pairs:
            self.assertIsInstance(pair, tuple)
            self.assertEqual(len(pair), 2)
        self.assertEqual(tuple(pair[0] for pair in pairs), unknowns(one))
        self.assertLessEqual(set(swapped(one, dict(pairs))), set(other))
        self.assertIs(is_lead(one, other, pairs), True)

    def test_example(self):
        self.assertEqual(lead(S, EVE), (("?3", "eve"), ("?7", "eve")))

    def test_none(self):
        self.assertIsNone(lead(EVE, S))
        self.assertIsNone(lead(S, (("has", "eve", "ann"), ("in", "bob", "rome"))))
        self.assertIsNone(lead((("by", "?1", "?1"),), (("by", "a", "b"), ("by", "b", "a"))))
        self.assertIsNone(lead((("at", "?1"), ("by", "?1", "?2")), (("at", "a"), ("by", "b", "a"))))

    def test_the_only_lead(self):
        self.assertEqual(lead((("at", "?1"), ("by", "?1", "?2")), (("at", "a"), ("at", "b"), ("by", "b", "?9"))),
                         (("?1", "b"), ("?2", "?9")))
        self.assertEqual(lead((("by", "?10", "?2"),), (("by", "?2", "?10"),)), (("?10", "?2"), ("?2", "?10")))

    def test_constants_lead_to_themselves(self):
        self.assertEqual(lead((("at", "ann"),), (("at", "?1"), ("at", "ann"))), ())
        self.assertIsNone(lead((("at", "ann"),), (("at", "?1"), ("at", "bob"))))
        self.assertIsNone(lead((("at", "ann"),), (("at", "?1"),)))
        self.assertIsNone(lead((("by", "?1", "ann"),), (("by", "ann", "?1"),)))
        self.assertEqual(lead((("by", "?1", "ann"),), (("by", "ann", "ann"), ("by", "ann", "bob"))), (("?1", "ann"),))
        self.assertIsNone(lead((("at", "ann"), ("by", "?1", "?2")), (("by", "a", "b"),)))

    def test_an_unknown_of_both(self):
        self.assertEqual(lead((("by", "?1", "a"),), (("at", "?1"), ("by", "?2", "a"))), (("?1", "?2"),))
        self.assertIsNone(lead((("at", "?1"), ("by", "?1", "a")), (("at", "?1"), ("by", "?2", "a"))))

    def test_a_relation_that_other_does_not_have(self):
        self.assertIsNone(lead((("at", "?1"),), (("by", "a", "b"),)))
        self.assertIsNone(lead((("at", "?1"), ("by", "?2", "?3")), (("by", "a", "b"),)))
        self.assertIsNone(lead((("at", "ann"),), (("in", "ann"),)))

    def test_a_relation_of_another_width(self):
        self.assertIsNone(lead((("at", "?1"),), (("at", "a", "b"),)))
        self.assertIsNone(lead((("at", "?1", "?2"),), (("at", "a"),)))
        self.assertIsNone(lead((("at", "ann"),), (("at", "ann", "ann"),)))
        self.assertIsNone(lead((("at", "ann", "bob"),), (("at", "ann"),)))

    def test_without_facts(self):
        self.assertEqual(lead((), ()), ())
        self.assertEqual(lead((), S), ())
        self.assertIsNone(lead(S, ()))
        self.assertIsNone(lead((("at", "ann"),), ()))

    def test_into_itself(self):
        numbers = chance(5)
        for _ in range(50):
            store = some_store(numbers, numbered(5), ["a"], 20)
            self.fits(store, store)

    def test_all_pairs_by_the_words_of_the_document(self):
        numbers = chance(6)
        found = []
        for _ in range(600):
            one, other = some_pair(numbers, 7)
            if slow_leads(one, other):
                self.fits(one, other)
            else:
                self.assertIsNone(lead(one, other), (one, other))
            found.append(bool(unknowns(one)) and lead(one, other) is not None)
        self.assertGreater(sum(found), 100)
        self.assertLess(sum(found), 500)

    def test_twenty_facts_and_five_unknowns(self):
        numbers = chance(7)
        for _ in range(100):
            one = some_store(numbers, numbered(5), ["a", "b"], 20)
            self.assertEqual(len(one), 20)
            table = {name: numbers.choice(["a", "b", "c", "?8", "?9"]) for name in numbered(5)}
            self.fits(one, swapped(one, table))
            other = swapped(one, table)[1:]
            if slow_leads(one, other):
                self.fits(one, other)
            else:
                self.assertIsNone(lead(one, other))

    def test_parts_that_have_nothing_to_do_with_each_other(self):
        # Many leads of the first part must not be tried over and over for a second part without one.
        names = ("a", "b", "c", "d", "e", "f", "g", "h")
        one = (("at", "?1"), ("at", "?2"), ("at", "?3"), ("by", "?4", "?5"), ("by", "?5", "?4"))
        ring = [("by", names[k], names[(k + 1) % 8]) for k in range(8)]
        other = tuple(sorted([("at", name) for name in names] + ring))
        self.assertIsNone(lead(one, other))
        self.fits(one, tuple(sorted(other + (("by", "c", "b"),))))

    def test_full_stores(self):
        def full(many):
            return tuple(("by", one, other) for one in numbered(many) for other in numbered(many) if one != other)
        self.assertIsNone(lead(full(5), full(4)))
        self.fits(full(4), full(5))
        self.fits(full(5), full(5))


class IsLeadTest(unittest.TestCase):
    def test_example(self):
        self.assertIs(is_lead(S, EVE, (("?3", "eve"), ("?7", "eve"))), True)

    def test_every_lead_and_no_other(self):
        numbers = chance(8)
        accepted = 0
        for _ in range(300):
            one, other = some_pair(numbers, 5)
            good = set(slow_leads(one, other))
            for pairs in sorted(good)[:20]:
                self.assertIs(is_lead(one, other, pairs), True, (one, other, pairs))
                accepted += 1
            for _ in range(20):
                pairs = tuple((name, numbers.choice(["a", "b", "?1", "?2", "eve"])) for name in unknowns(one))
                self.assertIs(is_lead(one, other, pairs), pairs in good, (one, other, pairs))
        self.assertGreater(accepted, 200)

    def no(self, value, one=S, other=EVE):
        self.assertIs(is_lead(one, other, value), False, value)

    def test_pairs_missing(self):
        self.no(())
        self.no((("?3", "eve"),))
        self.no((("?7", "eve"),))
        # Without its pair the unknown would stay as it is, and stand in the other store.
        self.no((), (("at", "?1"),), (("at", "?1"),))
        self.no((("?1", "a"),), (("at", "?1"), ("by", "?2", "a")), (("at", "a"), ("by", "?2", "a")))

    def test_pairs_too_many(self):
        self.no((("?3", "eve"), ("?7", "eve"), ("?8", "eve")))
        self.no((("?1", "eve"), ("?3", "eve"), ("?7", "eve")))
        self.no((("?3", "eve"), ("?7", "eve"), ("ann", "ann")))
        self.no((("?1", "ann"),), (), EVE)
        self.no((("?1", "ann"),), (("at", "ann"),), (("at", "ann"),))

    def test_pairs_twice(self):
        self.no((("?3", "eve"), ("?3", "eve"), ("?7", "eve")))
        self.no((("?3", "eve"), ("?7", "eve"), ("?7", "eve")))
        self.no((("?1", "a"), ("?1", "b")), (("at", "?1"),), (("at", "a"), ("at", "b")))

    def test_pairs_out_of_order(self):
        self.no((("?7", "eve"), ("?3", "eve")))
        one, other = (("at", "?10"), ("at", "?2")), (("at", "a"),)
        self.assertIs(is_lead(one, other, (("?10", "a"), ("?2", "a"))), True)
        self.no((("?2", "a"), ("?10", "a")), one, other)

    def test_other_values(self):
        self.no((("?3", "ann"), ("?7", "eve")))
        self.no((("?3", "eve"), ("?7", "bob")))
        self.no((("?3", "?3"), ("?7", "?7")))
        for value in ODD_VALUES:
            self.no((("?3", "eve"), ("?7", value)))
            self.no((("?3", value), ("?7", "eve")))
            self.no(((value, "eve"), ("?7", "eve")))

    def test_lists_in_the_place_of_tuples(self):
        self.no([("?3", "eve"), ("?7", "eve")])
        self.no((["?3", "eve"], ("?7", "eve")))
        self.no((("?3", "eve"), ["?7", "eve"]))
        self.no([["?3", "eve"], ["?7", "eve"]])
        self.no((("?3", ["eve"]), ("?7", "eve")))
        self.no(((["?3"], "eve"), ("?7", "eve")))
        self.no([], (), ())

    def test_no_pairs(self):
        self.no((("?3", "eve", "eve"), ("?7", "eve")))
        self.no((("?3",), ("?7", "eve")))
        self.no(("?3", "eve"))
        self.no(("?3", "?7"))
        self.no("?3")
        self.no(((), ()))
        # A string of two signs is no pair, though it has two parts.
        self.no(("?1",), (("at", "?1"),), (("at", "a"),))
        self.no(("?a", "?b"))

    def test_any_value(self):
        for value in ODD_VALUES:
            self.no(value)
            self.assertIs(is_lead((), (), value), value == () and isinstance(value, tuple), value)

    def test_a_fact_that_other_does_not_have(self):
        self.no((("?3", "eve"), ("?7", "eve")), S, EVE[:1])
        self.no((("?3", "eve"), ("?7", "eve")), S + (("to", "a", "b", "c", "d"),), EVE)
        self.no((("?1", "a"),), (("at", "?1"), ("by", "b", "b")), (("at", "a"), ("by", "b", "c")))
        self.no((("?1", "a"),), (("at", "?1"),), (("at", "a", "a"),))
        self.assertIs(is_lead((), (), ()), True)
        self.assertIs(is_lead((), S, ()), True)
        self.assertIs(is_lead((("at", "a"),), (("at", "a"),), ()), True)
        self.no((), (("at", "a"),), ())
        self.no((), (("at", "a"),), (("at", "b"),))

    def test_a_list_is_not_changed(self):
        value = [["?7", "eve"], ["?3", []], "x"]
        before = copy.deepcopy(value)
        is_lead(S, EVE, value)
        is_lead(S, EVE, (("?3", value), ("?7", "eve")))
        self.assertEqual(value, before)


class SameTest(unittest.TestCase):
    def told(self, one, other, answer):
        self.assertIs(same(one, other), answer, (one, other))
        self.assertIs(same(other, one), answer, (other, one))

    def test_renamed_one_to_one(self):
        self.told(S, S, True)
        self.told(S, plain(S), True)
        self.told(S, renamed(S, (("?3", "?7"), ("?7", "?3"))), True)
        self.told((), (), True)
        self.told((("at", "ann"),), (("at", "ann"),), True)
        self.told((("by", "?1", "?2"),), (("by", "?2", "?1"),), True)
        self.told((("by", "?1", "?2"), ("by", "?2", "?3")), (("by", "?2", "?1"), ("by", "?3", "?2")), True)

    def test_two_unknowns_made_one(self):
        self.told(S, renamed(S, (("?7", "?3"),)), False)
        self.told((("by", "?1", "?2"),), (("by", "?1", "?1"),), False)
        self.told((("by", "?1", "?2"), ("by", "?2", "?1")), (("by", "?1", "?1"), ("by", "?2", "?2")), False)

    def test_an_unknown_made_a_constant(self):
        self.told(S, renamed(S, (("?7", "eve"),)), False)
        self.told((("at", "?1"),), (("at", "ann"),), False)
        self.told((("at", "bob"),), (("at", "ann"),), False)

    def test_a_fact_more_or_less(self):
        self.told(S, S[:2], False)
        self.told(S, S + (("to", "a", "b", "c", "d"),), False)
        self.told((), (("at", "?1"),), False)
        self.told((("at", "?1"), ("at", "?2")), (("at", "?1"),), False)

    def test_they_lead_into_each_other_and_are_not_the_same(self):
        one, other = (("by", "?1", "?1"), ("by", "?1", "?2")), (("by", "?1", "?1"), ("by", "?2", "?1"))
        self.assertIsNotNone(lead(one, other))
        self.assertIsNotNone(lead(other, one))
        self.told(one, other, False)

    def test_all_pairs_by_the_words_of_the_document(self):
        numbers = chance(9)
        answers = []
        for turn in range(300):
            relations = numbers.choice(RELATIONS)
            one = some_store(numbers, numbered(4), ["a"], numbers.randrange(2, 7), relations)
            other = swapped(one, dict(zip(numbered(4), numbers.sample(["?1", "?2", "?3", "?4", "?10"], 4))))
            if turn % 2:
                gone = numbers.choice(other)
                there = (gone[0],) + tuple(numbers.choice(numbered(4) + ["a"]) for _ in gone[1:])
                other = tuple(sorted(set(other) - {gone} | {there}))
            self.told(one, other, slow_same(one, other))
            answers.append(same(one, other))
        self.assertGreater(sum(answers), 150)
        self.assertGreater(len(answers) - sum(answers), 75)


if __name__ == "__main__":
    unittest.main()
