import copy
import unittest

from corestore.books import is_book, is_rule, is_source
from helper import B, ODD_VALUES, R, chance, some_book, some_rule, some_source

P = ("p", "A")
U = ("u", "A")


def several(name, many):
    """That many atoms of relations of their own."""
    return tuple((name + "abcdef"[number], "A") for number in range(many))


class RuleTest(unittest.TestCase):
    def yes(self, value):
        self.assertIs(is_rule(value), True, value)
        self.assertIs(is_book(((value,), ())), True, value)

    def no(self, value):
        self.assertIs(is_rule(value), False, value)
        self.assertIs(is_book(((value,), ())), False, value)

    def test_example(self):
        self.yes(R)

    def test_numbers_of_atoms(self):
        for many in (1, 2, 3):
            self.yes((several("p", many), (U,)))
            self.yes(((P,), several("u", many)))
            self.yes((several("p", many), several("u", many)))
            self.yes(((P,) * many, (U,) * many))
        for many in (0, 4, 5):
            self.no((several("p", many), (U,)))
            self.no(((P,), several("u", many)))
            self.no(((P,) * many, (U,)))
            self.no(((P,), (U,) * many))

    def test_numbers_of_variables(self):
        self.yes(((("p", "a"),), (("u", "b"),)))
        self.yes(((("p", "A", "B", "C"),), (U,)))
        self.no(((("p", "A", "B", "C", "D"),), (U,)))
        self.no(((("p", "A", "B"), ("q", "C", "D")), (U,)))
        self.yes(((("p", "A", "B"), ("q", "C", "A"), ("q", "B", "C")), (U,)))
        self.yes(((("p", "A"),), (("u", "B", "C", "D", "E"),)))
        self.no(((("p", "A"),), (("u", "B", "C", "D", "E"), ("v", "F"))))
        self.yes(((("p", "A", "B", "C"),), (("u", "D", "E"),)))
        self.no(((("p", "A", "B", "C"),), (("u", "D", "E", "F"),)))
        self.yes(((("p", "x"),), (("u", "A", "B", "C", "D"), ("v", "E"))))
        self.no(((("p", "x"),), (("u", "A", "B", "C", "D"), ("v", "E", "F"))))
        self.yes(((("p", "A", "A", "A", "A"),), (("u", "A", "Z", "Y", "X"), ("u", "W", "A", "A", "A"))))

    def test_a_relation_in_body_and_head(self):
        self.no(((P,), (P,)))
        self.no(((P, ("q", "A")), (U, ("q", "A"))))
        self.no(((P,), (("p", "A", "A"),)))
        # A constant may have the name of a relation.
        self.yes(((("p", "u"),), (("u", "p"),)))

    def test_numbers_of_terms(self):
        for many in (1, 2, 3, 4):
            self.yes(((("p",) + ("A",) * many,), (U,)))
            self.yes(((P,), (("u",) + ("A",) * many,)))
        for many in (0, 5, 6):
            self.no(((("p",) + ("A",) * many,), (U,)))
            self.no(((P,), (("u",) + ("A",) * many,)))
        self.no(((P, ("p", "A", "B")), (U,)))
        self.no(((P,), (U, ("u", "A", "A"))))
        self.no(((("p", "A", "A"), ("q", "A"), P), (U,)))
        self.yes(((("p", "A", "A"), ("q", "A"), ("p", "B", "A")), (U,)))

    def test_relations_and_terms(self):
        for term in ("A", "Z", "a", "z", "abcdefgh"):
            self.yes(((("p", term),), (U,)))
            self.yes(((P,), (("u", "A", term),)))
        for term in ("?1", "", "AB", "abcdefghi", "aB", "Ab", "1", "a1", " ", "a b", ":", "\n", "[", "@", "`", "{"):
            self.no(((("p", term),), (U,)))
            self.no(((P,), (("u", "A", term),)))
        for relation in ("P", "", "?1", "abcdefghi", "pA", "p1", "p ", "!"):
            self.no((((relation, "A"),), (U,)))
            self.no(((P,), ((relation, "A"),)))
        self.yes(((("abcdefgh", "A"),), (("hgfedcba", "A"),)))

    def test_lists_and_other_values(self):
        self.no([(P,), (U,)])
        self.no(([P], (U,)))
        self.no(((P,), [U]))
        self.no(((["p", "A"],), (U,)))
        self.no(((P,), (["u", "A"],)))
        self.no(((P,),))
        self.no(((P,), (U,), ()))
        self.no((P, U))
        for value in ODD_VALUES:
            self.no(value)
            if value not in (("at", "ann"), (("at", "ann"),)):
                self.no((value, (U,)))
                self.no(((P,), value))
                self.no(((value,), (U,)))
                self.no(((P, value), (U,)))
                self.no(((P,), (U, value)))
            if value != "ann":
                self.no(((("p", value),), (U,)))
                self.no((((value, "A"),), (U,)))
                self.no(((P,), (("u", value),)))


def ruled(many):
    """That many rules."""
    return tuple(((("p", "A"),), (("u" * (number + 1), "A"),)) for number in range(many))


class BookTest(unittest.TestCase):
    def yes(self, value):
        self.assertIs(is_book(value), True, value)

    def no(self, value):
        self.assertIs(is_book(value), False, value)

    def test_example(self):
        self.yes(B)
        self.yes(((R,), (("in", (1,)),)))

    def test_numbers_of_rules(self):
        for many in (1, 2, 3, 4):
            self.yes((ruled(many), ()))
            self.yes(((R,) * many, ()))
        for many in (0, 5, 6):
            self.no((ruled(many), ()))
            self.no(((R,) * many, ()))

    def test_numbers_of_keys(self):
        for many in (0, 1, 2, 3):
            self.yes(((R,), (("in", (0,)),) * many))
        for many in (4, 5):
            self.no(((R,), (("in", (0,)),) * many))

    def test_a_rule_that_is_none(self):
        self.no(((R, ((P,), (P,))), ()))
        self.no(((((), (U,)), R), ()))

    def test_a_relation_in_a_body_and_a_head_of_two_rules(self):
        self.no((((((P,)), (U,)), (((U,)), (("v", "A"),))), ()))
        self.no((((((U,)), (("v", "A"),)), (((P,)), (U,))), ()))
        self.yes((((((P,)), (U,)), (((P,)), (U, ("v", "A")))), ()))

    def test_numbers_of_terms_across_rules(self):
        wide = ("u", "A", "A")
        self.no(((((P,), (U,)), ((P,), (wide,))), ()))
        self.no(((((P,), (U,)), ((("p", "A", "B"),), (U,))), ()))
        self.yes(((((P,), (wide,)), ((P,), (wide,))), ()))

    def test_relations_of_keys(self):
        self.yes(((R,), (("has", (0,)),)))
        for relation in ("emp", "other", "C", "?1", "", None, 1, ("in",), ["in"]):
            self.no(((R,), ((relation, (0,)),)))
        two = (((P,), (U,)), ((("q", "A"),), (("v", "A", "B"),)))
        self.yes((two, (("v", (1,)), ("u", (0,)))))
        self.no((two, (("u", (1,)),)))
        self.no((two, (("q", (0,)),)))

    def test_columns(self):
        wide = (((P,), (("u", "A", "B", "C", "D"),)),)
        for columns in ((0,), (1,), (2,), (3,), (0, 1), (0, 3), (1, 2, 3), (0, 1, 2, 3)):
            self.yes((wide, (("u", columns),)))
        for columns in ((), (1, 0), (0, 2, 1), (0, 0), (1, 1, 2), (-1,), (-1, 0), (4,), (0, 4), (3, 4), (10 ** 59,),
                        (0, 1, 2, 3, 4), (True,), (0, True), (False,), (False, 1), ("0",), (None,), ((0,),), ([0],),
                        [0], [0, 1], "0", 0, None, True):
            self.no((wide, (("u", columns),)))
        self.yes(((R,), (("in", (0, 1)),)))
        self.no(((R,), (("in", (2,)),)))

    def test_lists_and_other_values(self):
        self.no([(R,), ()])
        self.no(([R], ()))
        self.no(((R,), []))
        self.no(((list(R),), ()))
        self.no(((R,), [("in", (0,))]))
        self.no(((R,), (["in", (0,)],)))
        self.no(((R,), (("in", (0,), ()),)))
        self.no(((R,), (("in",),)))
        self.no(((R,), ("in", (0,))))
        self.no(((R,), (), ()))
        self.no(((R,),))
        self.no((R, ()))
        self.no(R)
        for value in ODD_VALUES:
            self.no(value)
            self.no((value, ()))
            self.no(((value,), ()))
            self.no(((R, value), ()))
            self.no(((R,), (value,)))
            self.no(((R,), (("in", value),)))
            self.no(((R,), ((value, (0,)),)))
            self.assertIs(is_book(((R,), value)), value == () and isinstance(value, tuple), value)

    def test_books_made_of_rules(self):
        numbers = chance(31)
        for _ in range(100):
            self.assertIs(is_rule(some_rule(numbers)), True)
            self.yes(some_book(numbers))


class SourceTest(unittest.TestCase):
    def yes(self, value, book=B):
        self.assertIs(is_source(book, value), True, value)

    def no(self, value, book=B):
        self.assertIs(is_source(book, value), False, value)

    def test_ordinary(self):
        self.yes((("emp", "ann", "rome"),))
        self.yes((("emp", "ann", "rome"), ("emp", "bob", "rome")))
        self.yes(())

    def test_relations_that_no_body_names(self):
        self.yes((("dept", "a"),))
        self.yes((("dept", "a", "b", "c", "d"), ("emp", "ann", "rome")))
        self.yes((("c", "a"), ("emp", "ann", "rome")))
        self.no((("dept", "a"), ("dept", "a", "b")))

    def test_relations_of_a_head(self):
        for fact in (("has", "a", "b"), ("in", "a", "b"), ("in", "a"), ("has", "a", "b", "c")):
            self.no((fact,))
            self.no(tuple(sorted([fact, ("emp", "ann", "rome")])))
        two = ((((P,), (U,)), ((("q", "A"),), (("v", "A"),))), ())
        self.yes((("p", "a"), ("q", "a")), two)
        for relation in "uv":
            self.no(((relation, "a"),), two)

    def test_other_numbers_of_values(self):
        for fact in (("emp", "a"), ("emp", "a", "b", "c"), ("emp", "a", "b", "c", "d")):
            self.no((fact,))
        two = ((((P,), (U,)), ((("q", "A", "A"),), (("v", "A"),))), ())
        self.yes((("p", "a"), ("q", "a", "a")), two)
        self.no((("p", "a", "a"), ("q", "a", "a")), two)
        self.no((("p", "a"), ("q", "a")), two)

    def test_unknowns(self):
        self.no((("emp", "?1", "rome"),))
        self.no((("dept", "?1"), ("emp", "ann", "rome")))
        self.no((("emp", "A", "B"),))

    def test_more_than_eight_facts(self):
        names = "abcdefghijklmnopqrstuvwxyz"
        self.yes(tuple(("emp", name, "rome") for name in names[:8]))
        self.yes(tuple(("emp", name, "rome") for name in names[:9]))
        self.yes(tuple(("emp", name, other) for name in names for other in names))

    def test_no_stores(self):
        self.no((("emp", "bob", "rome"), ("emp", "ann", "rome")))
        self.no((("emp", "ann", "rome"), ("emp", "ann", "rome")))
        self.no([("emp", "ann", "rome")])
        self.no((["emp", "ann", "rome"],))
        self.no(("emp", "ann", "rome"))
        for value in ODD_VALUES:
            good = value == () and isinstance(value, tuple) or value == (("at", "ann"),) and isinstance(value, tuple)
            self.assertIs(is_source(B, value), good, value)
            self.no((value,), B) if value != ("at", "ann") else self.yes((value,), B)

    def test_sources_of_books(self):
        numbers = chance(32)
        for _ in range(100):
            book = some_book(numbers)
            self.yes(some_source(numbers, book), book)

    def test_nothing_is_changed(self):
        value = [[("emp", "ann", "rome")], [], {"a": 1}.get("a")]
        before = copy.deepcopy(value)
        for function in (is_rule, is_book):
            self.assertIs(function(value), False)
            self.assertIs(function((value, value)), False)
        self.assertIs(is_source(B, value), False)
        self.assertEqual(value, before)


if __name__ == "__main__":
    unittest.main()
