import copy
import itertools
import unittest

from corestore.stores import is_store, plain, renamed, unknowns
from helper import ODD_VALUES, S, WIDTHS, chance, numbered, slow_plain, some_store, stand_in, swapped


def words(many):
    """That many words, ascending."""
    letters = "abcdefghijklmnopqrstuvwxyz"
    return ["".join(pair) for pair in itertools.islice(itertools.product(letters, repeat=2), many)]


class IsStoreTest(unittest.TestCase):
    def yes(self, value):
        self.assertIs(is_store(value), True, value)

    def no(self, value):
        self.assertIs(is_store(value), False, value)

    def test_ordinary_stores(self):
        self.yes(S)
        self.yes((("at", "ann"),))
        self.yes((("at", "?1"), ("at", "ann"), ("to", "a", "b", "c", "?99999")))
        self.yes((("at", "at"), ("by", "at", "at")))

    def test_no_facts(self):
        self.yes(())

    def test_more_than_thirty_facts(self):
        for many in (29, 30, 31, 200):
            self.yes(tuple(("at", word) for word in words(many)))

    def test_more_than_five_unknowns(self):
        for many in (5, 6, 40):
            self.yes(tuple(("at", name) for name in sorted(numbered(many))))

    def test_order(self):
        self.no((("at", "bob"), ("at", "ann")))
        self.no((("by", "ann"), ("at", "bob")))
        self.no((("at", "x", "b"), ("at", "x", "a")))
        self.no((("at", "ann"), ("at", "bob"), ("at", "ann")))
        self.no((("at", "ann"), ("by", "ann"), ("at", "bob")))
        self.yes((("at", "ann"), ("at", "bob"), ("by", "ann")))

    def test_order_is_that_of_strings(self):
        self.yes((("at", "?10"), ("at", "?2")))
        self.no((("at", "?2"), ("at", "?10")))
        self.yes((("at", "?9"), ("at", "a")))
        self.no((("at", "a"), ("at", "?9")))
        self.yes((("a", "b"), ("aa", "a"), ("b", "a")))
        self.no((("a", "b"), ("b", "a"), ("aa", "a")))

    def test_a_fact_twice(self):
        self.no((("at", "ann"), ("at", "ann")))
        self.no((("at", "?1"), ("at", "?1"), ("at", "ann")))
        self.no((("at", "ann"), ("by", "?1"), ("by", "?1")))

    def test_one_width_in_a_relation(self):
        self.no((("at", "ann"), ("at", "ann", "bob")))
        self.no((("at", "ann", "bob"), ("at", "bob")))
        self.no((("at", "a", "b"), ("at", "b", "c"), ("at", "c", "d", "e"), ("by", "a")))
        self.no((("at", "a"), ("by", "a", "b"), ("by", "b", "c", "d", "e")))
        self.yes((("at", "a"), ("by", "a", "b"), ("in", "a", "b", "c"), ("to", "a", "b", "c", "d")))

    def test_number_of_values(self):
        self.no((("at",),))
        self.no(((),))
        for many in (1, 2, 3, 4):
            self.yes((("at",) + ("ann",) * many,))
        for many in (5, 6):
            self.no((("at",) + ("ann",) * many,))

    def test_words(self):
        for good in ("a", "z", "abcdefgh", "zzzzzzzz", "at"):
            self.yes((("at", good),))
            self.yes(((good, "ann"),))
        bad = ("", "abcdefghi", "Ann", "aNn", "ANN", "a1", "1", "a b", " a", "a ", " ", "a_b", "a-b", "a.b", "a\n",
               "\n", "{", "`", "a?", "@", "a'b", "\u00e4", "\u0430", "\u00aa")
        for word in bad:
            self.no((("at", word),))
            self.no(((word, "ann"),))
            self.no((("by", "ann", word),))
            self.no((("to", "ann", "bob", word, "?1"),))

    def test_unknowns_as_values(self):
        for good in ("?1", "?9", "?10", "?12", "?101", "?1000", "?10000", "?99999"):
            self.yes((("at", good),))
            self.yes((("by", "ann", good),))
        bad = ("?0", "?", "?01", "?00001", "?100000", "?123456", "?a", "?1a", "?-1", "?+1", "? 1", "?1 ", "?1\n", "??1",
               "1?", "?1_0", "?1.", "\u00bf1", "?\u0661", "?1\u0662", "?\u00b2")
        for name in bad:
            self.no((("at", name),))
            self.no((("by", "ann", name),))

    def test_an_unknown_is_no_relation(self):
        self.no((("?1", "ann"),))

    def test_values_that_are_no_stores(self):
        for value in ODD_VALUES:
            if value not in ((), [], ""):
                self.no(value)
        self.no([])
        self.no("")
        self.no({})
        self.no([("at", "ann")])
        self.no((["at", "ann"],))
        self.no(("at", "ann"))
        self.no((("at", "ann"), None))
        self.no((("at", "ann"), ["at", "bob"]))
        self.no((("at", ("ann",)),))
        self.no(((("at",), "ann"),))
        self.no((("at", "ann"), 1))
        self.no((1, ("at", "ann")))
        self.no(("ann", "bob"))
        self.no(((1, 2), (3, 4)))
        self.no((("at", 1), ("at", 2)))
        self.no((("at", 1), ("at", True)))
        nested = ()
        for _ in range(11):
            nested = (nested,)
        self.no(nested)

    def test_facts_that_cannot_be_compared(self):
        self.no((("at", 1), ("at", "ann")))
        self.no((("at", None), ("at", None)))
        self.no(((None, "a"), ("at", "a")))

    def test_a_list_is_not_changed(self):
        value = [["at", "bob"], ("at", "ann"), [[]]]
        before = copy.deepcopy(value)
        is_store(value)
        self.assertEqual(value, before)


class UnknownsTest(unittest.TestCase):
    def test_example(self):
        self.assertEqual(unknowns(S), ("?3", "?7"))

    def test_none(self):
        self.assertEqual(unknowns(()), ())
        self.assertEqual(unknowns((("at", "ann"), ("by", "ann", "bob"))), ())

    def test_each_once_though_it_stands_several_times(self):
        store = (("at", "?4"), ("by", "?4", "?4"), ("to", "?2", "a", "?4", "?2"))
        self.assertEqual(unknowns(store), ("?2", "?4"))

    def test_order_of_strings(self):
        store = (("at", "?10"), ("at", "?2"), ("at", "?9"), ("at", "?99999"), ("by", "?1", "?20"))
        self.assertEqual(unknowns(store), ("?1", "?10", "?2", "?20", "?9", "?99999"))

    def test_in_each_column(self):
        self.assertEqual(unknowns((("to", "?5", "?4", "?3", "?2"),)), ("?2", "?3", "?4", "?5"))

    def test_many_stores(self):
        numbers = chance(1)
        for _ in range(100):
            store = some_store(numbers, ["?1", "?10", "?2", "?33", "?4"], ["ann", "b"], numbers.randrange(8))
            self.assertEqual(unknowns(store), tuple(stand_in(store)))


class RenamedTest(unittest.TestCase):
    def test_all_some_and_no_unknowns(self):
        self.assertEqual(renamed(S, (("?3", "?1"), ("?7", "?2"))),
                         (("has", "?1", "ann"), ("has", "?2", "ann"), ("in", "?1", "rome")))
        self.assertEqual(renamed(S, (("?7", "eve"),)), (("has", "?3", "ann"), ("has", "eve", "ann"), ("in", "?3", "rome")))
        self.assertEqual(renamed(S, ()), S)
        self.assertEqual(renamed((), ()), ())

    def test_unknowns_that_the_store_does_not_have(self):
        self.assertEqual(renamed(S, (("?1", "ann"), ("?30", "bob"))), S)
        self.assertEqual(renamed(S, (("?1", "ann"), ("?3", "rome"), ("?8", "bob"))),
                         (("has", "?7", "ann"), ("has", "rome", "ann"), ("in", "rome", "rome")))
        self.assertEqual(renamed((), (("?1", "ann"),)), ())

    def test_all_at_once(self):
        self.assertEqual(renamed((("by", "?1", "?2"), ("by", "?2", "ann")), (("?1", "?2"), ("?2", "?1"))),
                         (("by", "?1", "ann"), ("by", "?2", "?1")))
        self.assertEqual(renamed((("in", "?1", "?2", "?3"),), (("?1", "?2"), ("?2", "?3"), ("?3", "?1"))),
                         (("in", "?2", "?3", "?1"),))
        self.assertEqual(renamed((("by", "?1", "?2"),), (("?1", "?2"), ("?2", "ann"))), (("by", "?2", "ann"),))

    def test_constants_and_relations_stay(self):
        self.assertEqual(renamed((("ann", "ann", "?1"),), (("?1", "ann"),)), (("ann", "ann", "ann"),))

    def test_facts_that_become_the_same_come_once(self):
        self.assertEqual(renamed(S, (("?7", "?3"),)), (("has", "?3", "ann"), ("in", "?3", "rome")))
        self.assertEqual(renamed((("at", "?1"), ("at", "?2"), ("at", "ann")), (("?1", "ann"), ("?2", "ann"))),
                         (("at", "ann"),))

    def test_facts_come_in_another_order(self):
        self.assertEqual(renamed((("at", "?1"), ("at", "?2")), (("?1", "?3"),)), (("at", "?2"), ("at", "?3")))
        self.assertEqual(renamed((("at", "?1"), ("at", "bob")), (("?1", "eve"),)), (("at", "bob"), ("at", "eve")))
        self.assertEqual(renamed((("at", "?1"), ("at", "?2")), (("?1", "?20"), ("?2", "?3"))),
                         (("at", "?20"), ("at", "?3")))
        self.assertEqual(renamed((("at", "?2"), ("at", "ann")), (("?2", "?10"),)), (("at", "?10"), ("at", "ann")))

    def test_many_stores(self):
        numbers = chance(2)
        names = ["?1", "?10", "?2", "?3", "?44"]
        for _ in range(200):
            store = some_store(numbers, names, ["ann", "bob"], numbers.randrange(12))
            table = {name: numbers.choice(names + ["ann", "eve", "?7"]) for name in names if numbers.randrange(3)}
            found = renamed(store, tuple(sorted(table.items())))
            self.assertEqual(found, swapped(store, table))
            self.assertTrue(is_store(found))


class PlainTest(unittest.TestCase):
    def test_example(self):
        self.assertEqual(plain(S), (("has", "?1", "ann"), ("has", "?2", "ann"), ("in", "?1", "rome")))

    def test_without_unknowns(self):
        for store in ((), (("at", "ann"),), (("at", "ann"), ("by", "ann", "bob"))):
            self.assertEqual(plain(store), store)

    def test_the_first_store_not_the_first_name(self):
        # The unknown that stands first, or has the smaller name, is not always the one to become "?1".
        self.assertEqual(plain((("by", "?5", "?9"), ("by", "?9", "?9"))), (("by", "?1", "?1"), ("by", "?2", "?1")))
        self.assertEqual(plain((("at", "?9"), ("by", "?5", "?9"))), (("at", "?1"), ("by", "?2", "?1")))
        self.assertEqual(plain((("by", "?1", "?2"), ("in", "?2", "?1", "?1"))),
                         (("by", "?1", "?2"), ("in", "?2", "?1", "?1")))

    def test_a_later_fact_decides(self):
        store = (("at", "?1"), ("at", "?2"), ("at", "?3"), ("by", "?3", "?2"), ("has", "?2", "?1"))
        self.assertEqual(plain(store), slow_plain(store))
        self.assertEqual(plain(store), (("at", "?1"), ("at", "?2"), ("at", "?3"), ("by", "?1", "?2"), ("has", "?2", "?3")))

    def test_names_that_are_plain_already_may_be_exchanged(self):
        self.assertEqual(plain((("by", "?2", "?1"),)), (("by", "?1", "?2"),))
        self.assertEqual(plain((("by", "?1", "?2"),)), (("by", "?1", "?2"),))

    def test_alike_unknowns(self):
        for many in range(1, 6):
            loose = tuple(("at", name) for name in numbered(many))
            self.assertEqual(plain(tuple(("at", f"?{name[1:]}0") for name in numbered(many))), loose)
            full = tuple(("by", one, other) for one in numbered(many) for other in numbered(many))
            self.assertEqual(plain(full), full)

    def test_all_stores_by_the_words_of_the_document(self):
        numbers = chance(3)
        for turn in range(250):
            names = numbers.sample(["?1", "?2", "?3", "?4", "?5", "?10", "?21", "?777", "?99999"], turn % 6)
            relations = numbers.choice([tuple(WIDTHS), ("by",), ("at", "by"), ("in",), ("to", "at")])
            store = some_store(numbers, names, numbers.choice([[], ["ann"], ["ann", "b"]]) or ["c"],
                               numbers.choice([2, 4, 8, 30]), relations)
            self.assertEqual(plain(store), slow_plain(store), store)

    def test_alike_but_for_names(self):
        numbers = chance(4)
        for _ in range(100):
            store = some_store(numbers, numbered(5), ["ann"], numbers.randrange(1, 15))
            names = numbers.sample(["?1", "?2", "?3", "?4", "?5", "?10", "?600"], 5)
            other = renamed(store, tuple(zip(numbered(5), names)))
            self.assertEqual(plain(other), plain(store))
            self.assertEqual(plain(plain(store)), plain(store))
            self.assertTrue(is_store(plain(store)))
            self.assertEqual(list(unknowns(plain(store))), numbered(len(unknowns(store))))

    def test_somewhat_beyond_the_limits(self):
        store = tuple(sorted(("by", one, other) for one in numbered(7) for other in ("a", "b", "c", "d", "?1")))
        self.assertEqual(plain(renamed(store, (("?1", "?50"), ("?7", "?1")))), plain(store))
        ring = tuple(sorted(("by", f"?{k + 1}", f"?{(k + 1) % 12 + 1}") for k in range(12)))
        self.assertEqual(plain(ring)[0], ("by", "?1", "?10"))
        self.assertEqual(sorted(unknowns(plain(ring))), sorted(numbered(12)))


if __name__ == "__main__":
    unittest.main()
