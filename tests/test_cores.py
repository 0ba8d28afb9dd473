import unittest

from corestore.cores import blocks, core, folding, is_folding
from corestore.leads import is_lead, same
from corestore.stores import plain, renamed, unknowns
from helper import ODD_VALUES, S, chance, numbered, slow_core, slow_leads, some_store, swapped

RELATIONS = (("at", "by"), ("by",), ("at", "by", "in"), ("in", "to"), ("by", "has"))


def some_folded(numbers):
    """A store of few unknowns; about as many are cores as are none."""
    names = numbered(numbers.randrange(5))
    constants = ["a", "b"][:numbers.randrange(3)] or ["a"]
    return some_store(numbers, names, constants, numbers.randrange(9), numbers.choice(RELATIONS))


def chain(names):
    """The facts that lead along the names."""
    return tuple(sorted(("by", one, other) for one, other in zip(names, names[1:])))


def full(many):
    """All facts of two unlike ones of that many unknowns."""
    return tuple(("by", one, other) for one in numbered(many) for other in numbered(many) if one != other)


class FoldingTest(unittest.TestCase):
    def folds(self, store):
        """folding returns a folding by the words of the document."""
        pairs = folding(store)
        self.assertIsInstance(pairs, tuple)
        self.assertEqual([pair[0] for pair in pairs], list(unknowns(store)))
        self.assertTrue(all(isinstance(pair, tuple) and len(pair) == 2 for pair in pairs))
        less = swapped(store, dict(pairs))
        self.assertLess(len(less), len(store))
        self.assertLessEqual(set(less), set(store))
        self.assertIs(is_folding(store, pairs), True)
        self.assertIs(is_lead(store, store, pairs), True)
        self.assertEqual(renamed(store, pairs), less)

    def test_example(self):
        self.assertEqual(folding(S), (("?3", "?3"), ("?7", "?3")))

    def test_none(self):
        for store in ((), (("at", "a"),), (("at", "?1"),), (("by", "?1", "?2"),), (("at", "a"), ("at", "b")),
                      (("at", "?1"), ("by", "?2", "?1")), (("by", "?1", "?2"), ("by", "?2", "?1")),
                      (("by", "?1", "a"), ("by", "b", "?1")), full(5)):
            self.assertIsNone(folding(store), store)

    def test_onto_constants(self):
        self.assertEqual(folding((("at", "?1"), ("at", "a"))), (("?1", "a"),))
        self.assertEqual(folding((("by", "?1", "b"), ("by", "a", "b"), ("in", "?2", "a", "a"))),
                         (("?1", "a"), ("?2", "?2")))
        self.assertIsNone(folding((("by", "?1", "b"), ("by", "a", "c"))))

    def test_of_one_of_two_parts(self):
        store = (("at", "?1"), ("by", "?1", "a"), ("by", "?2", "a"), ("in", "?10", "?10", "a"))
        self.assertEqual(folding(store), (("?1", "?1"), ("?10", "?10"), ("?2", "?1")))

    def test_copies_of_parts(self):
        part = (("by", "?1", "?2"), ("by", "?2", "a"), ("at", "?2"))
        copy = swapped(part, {"?1": "?3", "?2": "?4"})
        for leave in range(len(copy) + 1):
            store = tuple(sorted(set(part) | set(copy[:leave])))
            self.assertIs(folding(store) is None, leave == 0, store)
            if leave:
                self.folds(store)
            self.assertEqual(core(store), slow_core(part))

    def test_all_by_the_words_of_the_document(self):
        numbers = chance(21)
        cores = 0
        for _ in range(500):
            store = some_folded(numbers)
            good = [pairs for pairs in slow_leads(store, store) if len(swapped(store, dict(pairs))) < len(store)]
            if good:
                self.folds(store)
            else:
                self.assertIsNone(folding(store), store)
                cores += bool(unknowns(store))
        self.assertGreater(cores, 100)
        self.assertLess(cores, 300)

    def test_a_folding_that_must_move_several_unknowns(self):
        # A ring of four, there and back, folds onto one step there and back only as a whole.
        ring = chain(["?1", "?2", "?3", "?4", "?1"])
        both = tuple(sorted(set(ring) | {("by", other, one) for _, one, other in ring}))
        self.folds(both)
        self.assertEqual(core(both), (("by", "?1", "?2"), ("by", "?2", "?1")))


class IsFoldingTest(unittest.TestCase):
    def no(self, value, store=S):
        self.assertIs(is_folding(store, value), False, value)

    def test_example(self):
        self.assertIs(is_folding(S, (("?3", "?3"), ("?7", "?3"))), True)

    def test_leads_that_leave_no_fewer_facts(self):
        self.no((("?3", "?3"), ("?7", "?7")))
        self.no(())
        self.no((), ())
        self.no((), (("at", "a"),))
        ring = (("by", "?1", "?2"), ("by", "?2", "?1"))
        self.no((("?1", "?2"), ("?2", "?1")), ring)
        self.no((("?1", "?1"), ("?2", "?2")), ring)

    def test_no_leads(self):
        self.no((("?3", "?7"), ("?7", "?7")))
        self.no((("?3", "ann"), ("?7", "ann")))
        # Fewer facts, but others.
        self.no((("?1", "?1"), ("?2", "?1")), (("at", "?1"), ("by", "?1", "?2"), ("by", "?2", "?1")))

    def test_every_folding_and_no_other(self):
        numbers = chance(22)
        told = []
        for _ in range(300):
            store = some_folded(numbers)
            for pairs in slow_leads(store, store)[:40]:
                told.append(is_folding(store, pairs))
                self.assertIs(told[-1], len(swapped(store, dict(pairs))) < len(store), (store, pairs))
            for _ in range(5):
                pairs = tuple((name, numbers.choice(["a", "b", "?1", "?2", "?9"])) for name in unknowns(store))
                good = set(swapped(store, dict(pairs))) < set(store)
                self.assertIs(is_folding(store, pairs), good, (store, pairs))
        self.assertGreater(told.count(True), 300)
        self.assertGreater(told.count(False), 300)

    def test_pairs_missing_too_many_twice_out_of_order(self):
        self.no((("?7", "?3"),))
        self.no((("?3", "?3"),))
        self.no((("?3", "?3"), ("?7", "?3"), ("?8", "?3")))
        self.no((("?3", "?3"), ("?7", "?3"), ("ann", "ann")))
        self.no((("?3", "?3"), ("?7", "?3"), ("?7", "?3")))
        self.no((("?3", "?3"), ("?3", "?3"), ("?7", "?3")))
        self.no((("?7", "?3"), ("?3", "?3")))
        store = (("at", "?10"), ("at", "?2"))
        self.assertIs(is_folding(store, (("?10", "?2"), ("?2", "?2"))), True)
        self.no((("?2", "?2"), ("?10", "?2")), store)

    def test_other_values(self):
        for value in ODD_VALUES:
            self.no(value)
            self.no(value, ())
            self.no(value, (("at", "?1"), ("at", "a")))
            self.no((("?3", value), ("?7", "?3")))
            self.no((("?3", "?3"), ("?7", value)))
            self.no((("?3", "?3"), (value, "?3")))
        self.no([("?3", "?3"), ("?7", "?3")])
        self.no((["?3", "?3"], ("?7", "?3")))
        self.no((("?3", "?3"), ["?7", "?3"]))
        self.no((("?3", "?3", "?3"), ("?7", "?3")))
        self.no((("?3",), ("?7", "?3")))


class CoreTest(unittest.TestCase):
    def test_example(self):
        self.assertEqual(core(S), (("has", "?1", "ann"), ("in", "?1", "rome")))

    def test_without_facts_and_without_unknowns(self):
        self.assertEqual(core(()), ())
        for store in ((("at", "a"),), (("at", "a"), ("by", "a", "b"), ("by", "b", "a"))):
            self.assertEqual(core(store), store)

    def test_chains_and_rings(self):
        names = numbered(5)
        self.assertEqual(core(chain(names)), plain(chain(names)))
        self.assertEqual(core(chain(names[:3]) + chain(names[3:])), chain(["?1", "?2", "?3"]))
        ring = chain(names + names[:1])
        self.assertEqual(core(ring), plain(ring))
        self.assertEqual(core(tuple(sorted(ring + (("by", "a", "a"),)))), (("by", "a", "a"),))
        self.assertEqual(core(chain(["?1", "?2", "?3", "?4", "?1"])), chain(["?1", "?2", "?3", "?4", "?1"]))
        two = tuple(sorted(chain(["?1", "?2", "?1"]) + chain(["a", "?3", "?4", "a"])))
        self.assertEqual(core(two), plain(two))
        both = tuple(sorted(chain(["?1", "?2", "?1"]) + chain(["?3", "?4", "a", "?3"]) + (("by", "a", "a"),)))
        self.assertEqual(core(both), (("by", "a", "a"),))
        self.assertEqual(core(tuple(sorted(chain(["?1", "?2"]) + chain(["?3", "?4", "?5", "?3"])))),
                         plain(chain(["?3", "?4", "?5", "?3"])))

    def test_onto_constants_one_behind_another(self):
        self.assertEqual(core((("at", "?1"), ("at", "?2"), ("at", "a"), ("by", "?3", "?1"), ("by", "b", "a"))),
                         (("at", "a"), ("by", "b", "a")))

    def test_all_by_the_words_of_the_document(self):
        numbers = chance(23)
        folded = 0
        for _ in range(500):
            store = some_folded(numbers)
            self.assertEqual(core(store), slow_core(store), store)
            self.assertIsNone(folding(core(store)))
            self.assertEqual(core(core(store)), core(store))
            folded += len(core(store)) < len(store)
        self.assertGreater(folded, 100)

    def test_cores_of_up_to_twenty_facts_and_five_unknowns(self):
        numbers = chance(24)
        cores = 0
        for _ in range(25):
            store = some_store(numbers, numbered(5), ["a"], 20, numbers.choice((("by",), ("at", "by", "in"))))
            if not any(set(swapped(store, dict(pairs))) < set(store) for pairs in slow_leads(store, store)):
                cores += 1
                self.assertIsNone(folding(store), store)
                self.assertEqual(core(store), plain(store))
            else:
                self.assertEqual(core(store), slow_core(store))
        self.assertGreater(cores, 3)
        self.assertEqual(core(full(5)), full(5))

    def test_alike_but_for_names(self):
        numbers = chance(25)
        for _ in range(100):
            store = some_store(numbers, numbered(5), ["a", "b"], numbers.randrange(4, 12))
            names = numbers.sample(["?1", "?2", "?3", "?9", "?10", "?77", "?12345"], 5)
            other = swapped(store, dict(zip(numbered(5), names)))
            self.assertTrue(same(store, other))
            self.assertEqual(core(store), core(other))
            self.assertEqual(core(store), plain(core(other)))


class BlocksTest(unittest.TestCase):
    def test_example(self):
        self.assertEqual(blocks(S), (("?3",), ("?7",)))

    def test_in_one_fact_by_a_third_one_and_alone(self):
        self.assertEqual(blocks((("by", "?1", "?2"),)), (("?1", "?2"),))
        self.assertEqual(blocks((("to", "?4", "a", "?1", "?3"),)), (("?1", "?3", "?4"),))
        self.assertEqual(blocks((("by", "?1", "?3"), ("by", "?2", "?3"))), (("?1", "?2", "?3"),))
        self.assertEqual(blocks((("by", "?1", "?3"), ("by", "?2", "?4"))), (("?1", "?3"), ("?2", "?4")))
        self.assertEqual(blocks((("by", "?1", "?4"), ("by", "?2", "?3"), ("by", "?3", "?4"), ("by", "?5", "?5"))),
                         (("?1", "?2", "?3", "?4"), ("?5",)))
        self.assertEqual(blocks((("at", "?1"), ("at", "?2"), ("at", "a"))), (("?1",), ("?2",)))

    def test_constants_hold_nothing_together(self):
        self.assertEqual(blocks((("by", "?1", "a"), ("by", "?2", "a"))), (("?1",), ("?2",)))

    def test_order(self):
        self.assertEqual(blocks((("at", "?10"), ("at", "?2"))), (("?10",), ("?2",)))
        self.assertEqual(blocks((("by", "?2", "?10"),)), (("?10", "?2"),))
        self.assertEqual(blocks((("at", "?3"), ("by", "?2", "?4"), ("by", "?9", "?1"))), (("?1", "?9"), ("?2", "?4"), ("?3",)))

    def test_without_unknowns(self):
        self.assertEqual(blocks(()), ())
        self.assertEqual(blocks((("at", "a"), ("by", "a", "b"))), ())

    def test_all_by_the_words_of_the_document(self):
        numbers = chance(26)
        for _ in range(300):
            store = some_store(numbers, numbered(12)[:numbers.randrange(13)], ["a"], numbers.randrange(9))
            near = {name: {name} for name in unknowns(store)}
            for _ in near:
                for fact in store:
                    told = set().union(*[near[part] for part in fact[1:] if part in near])
                    near.update({name: told | near[name] for name in told})
            self.assertEqual(blocks(store), tuple(sorted({tuple(sorted(block)) for block in near.values()})))


if __name__ == "__main__":
    unittest.main()
