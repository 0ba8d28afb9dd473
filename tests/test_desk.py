import unittest

from corestore.desk import Handing
from corestore.errors import BadFact, BadSource, Clash, CoreError, NoFact, NothingDone
from corestore.handing import has_right, least
from corestore.questions import sure
from helper import B, ODD_VALUES, R, chance, rule, slow_handed, some_book, some_source, store

ANN, BOB, EVE = ("emp", "ann", "rome"), ("emp", "bob", "rome"), ("emp", "ann", "oslo")
KEYED = ((rule("q A B", "v A B"),), (("v", (0,)),))
BAD_FACTS = (("has", "a", "b"), ("in", "a"), ("emp", "a"), ("emp", "a", "b", "c"), ("emp", "?1", "rome"), ("emp",),
             ("emp", "A", "B"), ("emp", "ann", 1), ("emp", "ann", "abcdefghi"), ("dept", "?1"), ["emp", "ann", "rome"],
             "emp ann rome", (ANN,), ("dept", "a", "b", "c", "d", "e"), ("Emp", "ann", "rome"), ("emp", "ann", ""),
             ("emp", ["ann"], "rome"), ("emp", "ann", None), ("emp", "ann", True), (), [])


class Base(unittest.TestCase):
    def state(self, one):
        """All that a Handing tells."""
        told = one.least() if one.has_right() else None
        return one.book, one.source, one.has_right(), told, len(one)

    def holds(self, one, book, source, many):
        """The Handing has this book, source and number of changes."""
        self.assertEqual(one.book, book)
        self.assertEqual(one.source, source)
        self.assertIsInstance(one.source, tuple)
        self.assertIs(one.has_right(), has_right(book, source))
        if has_right(book, source):
            self.assertEqual(one.least(), least(book, source))
        else:
            self.assertRaises(Clash, one.least)
        self.assertEqual(len(one), many)

    def unchanged(self, one, error, call, *arguments):
        """The call raises the error, which is returned, and changes nothing."""
        before = self.state(one)
        with self.assertRaises(error) as caught:
            call(*arguments)
        self.assertIs(type(caught.exception), error)
        self.assertIsInstance(caught.exception, CoreError)
        self.assertEqual(self.state(one), before)
        return caught.exception


class BeginTest(Base):
    def test_without_a_source(self):
        self.holds(Handing(B), B, (), 0)
        self.holds(Handing(book=B), B, (), 0)

    def test_with_a_source(self):
        self.holds(Handing(B, source=(ANN, BOB)), B, (ANN, BOB), 0)
        self.holds(Handing(source=(ANN,), book=B), B, (ANN,), 0)
        self.holds(Handing(KEYED, source=store("q a b, q a c")), KEYED, store("q a b, q a c"), 0)
        self.holds(Handing(B, source=store("dept a, emp a b")), B, store("dept a, emp a b"), 0)

    def test_source_is_passed_by_name_alone(self):
        with self.assertRaises(TypeError):
            Handing(B, (ANN,))

    def test_no_source(self):
        for value in ODD_VALUES + ((BOB, ANN), (ANN, ANN), [ANN], ANN, (("has", "a", "b"),), (("emp", "a"),),
                                   (("emp", "?1", "a"),), (["emp", "a", "b"],), (ANN, ["zoo", "a"])):
            if value not in ((), (("at", "ann"),)) or isinstance(value, list):
                with self.assertRaises(BadSource) as caught:
                    Handing(B, source=value)
                self.assertIs(type(caught.exception), BadSource)

    def test_a_list_changed_later(self):
        source = [ANN]
        self.assertRaises(BadSource, Handing, B, source=source)
        self.assertEqual(source, [ANN])

    def test_book_and_source_cannot_be_assigned(self):
        one = Handing(B)
        for name in ("book", "source"):
            self.assertIsInstance(getattr(Handing, name), property)
            with self.assertRaises(AttributeError):
                setattr(one, name, ())


class AskTest(Base):
    def test_as_the_functions(self):
        one = Handing(((R,), (("in", (1,)),)), source=(ANN, BOB))
        self.assertIs(one.has_right(), True)
        self.assertEqual(one.least(), (("has", "?1", "ann"), ("has", "?1", "bob"), ("in", "?1", "rome")))
        question = (("A", "B"), (("has", "C", "A"), ("has", "C", "B")))
        self.assertEqual(one.sure(question), (("ann", "ann"), ("ann", "bob"), ("bob", "ann"), ("bob", "bob")))
        one.take(BOB)
        self.assertEqual(one.least(), (("has", "?1", "ann"), ("in", "?1", "rome")))
        self.assertEqual(one.sure(question), (("ann", "ann"),))

    def test_no_store_is_right(self):
        one = Handing(KEYED, source=store("q a b, q a c"))
        self.assertIs(one.has_right(), False)
        self.unchanged(one, Clash, one.least)
        self.unchanged(one, Clash, one.sure, ((), (("v", "A", "B"),)))
        one.take(("q", "a", "c"))
        self.assertEqual(one.sure((("B",), (("v", "a", "B"),))), (("b",),))


class PutTest(Base):
    def test_a_new_fact(self):
        one = Handing(B)
        self.assertIs(one.put(BOB), True)
        self.holds(one, B, (BOB,), 1)
        self.assertIs(one.put(ANN), True)
        self.holds(one, B, (ANN, BOB), 2)
        self.assertIs(one.put(EVE), True)
        self.holds(one, B, (EVE, ANN, BOB), 3)

    def test_a_fact_that_is_there(self):
        one = Handing(B, source=(ANN,))
        self.assertIs(one.put(ANN), False)
        self.holds(one, B, (ANN,), 1)
        self.assertIs(one.put(ANN), False)
        self.holds(one, B, (ANN,), 2)

    def test_a_fact_that_no_rule_looks_at(self):
        one = Handing(B, source=(ANN,))
        self.assertIs(one.put(("dept", "a")), False)
        self.holds(one, B, (("dept", "a"), ANN), 1)
        self.assertIs(one.put(("zoo", "a", "b", "c", "d")), False)
        self.holds(one, B, (("dept", "a"), ANN, ("zoo", "a", "b", "c", "d")), 2)

    def test_a_fact_of_which_nothing_new_comes(self):
        one = Handing(((rule("q A B", "v A D"),), ()), source=store("q a b"))
        self.assertIs(one.put(("q", "a", "c")), False)
        self.holds(one, one.book, store("q a b, q a c"), 1)
        self.assertIs(one.put(("q", "b", "c")), True)

    def test_from_right_to_none_and_back(self):
        one = Handing(KEYED, source=store("q a b"))
        self.assertIs(one.put(("q", "a", "c")), True)
        self.holds(one, KEYED, store("q a b, q a c"), 1)
        # No store is right ahead of it and behind it.
        self.assertIs(one.put(("q", "b", "c")), False)
        self.assertIs(one.put(("q", "a", "d")), False)
        self.assertIs(one.take(("q", "a", "d")), False)
        self.assertIs(one.take(("q", "a", "b")), True)
        self.holds(one, KEYED, store("q a c, q b c"), 5)

    def test_no_fact_of_a_source(self):
        one = Handing(B, source=(ANN, ("zoo", "a")))
        for value in BAD_FACTS + (("zoo", "a", "b"),) + ODD_VALUES:
            if value != ("at", "ann") or isinstance(value, list):
                error = self.unchanged(one, BadFact, one.put, value)
                self.assertIs(error.value, value)

    def test_a_fact_that_makes_the_source_uneven(self):
        one = Handing(B)
        self.assertIs(one.put(("dept", "a")), False)
        error = self.unchanged(one, BadFact, one.put, ("dept", "a", "b"))
        self.assertEqual(error.value, ("dept", "a", "b"))
        one.take(("dept", "a"))
        self.assertIs(one.put(("dept", "a", "b")), False)


class TakeTest(Base):
    def test_a_fact(self):
        one = Handing(B, source=(EVE, ANN, BOB))
        self.assertIs(one.take(ANN), True)
        self.holds(one, B, (EVE, BOB), 1)
        self.assertIs(one.take(BOB), True)
        self.assertIs(one.take(EVE), True)
        self.holds(one, B, (), 3)

    def test_a_fact_of_which_nothing_comes(self):
        one = Handing(B, source=(("dept", "a"), ANN))
        self.assertIs(one.take(("dept", "a")), False)
        self.holds(one, B, (ANN,), 1)
        one = Handing(((rule("q A B", "v A D"),), ()), source=store("q a b, q a c"))
        self.assertIs(one.take(("q", "a", "b")), False)
        self.assertIs(one.take(("q", "a", "c")), True)

    def test_values_that_are_not_there(self):
        one = Handing(B, source=(ANN, BOB))
        for value in BAD_FACTS + ODD_VALUES + (EVE, (ANN,), list(ANN), ("emp", "ann"), "emp"):
            error = self.unchanged(one, NoFact, one.take, value)
            self.assertIs(error.value, value)
        one.take(ANN)
        self.assertEqual(self.unchanged(one, NoFact, one.take, ANN).value, ANN)


class UndoTest(Base):
    def test_nothing_done(self):
        one = Handing(B, source=(ANN,))
        self.unchanged(one, NothingDone, one.undo)
        one.put(BOB)
        self.assertEqual(one.undo(), 0)
        self.unchanged(one, NothingDone, one.undo)
        self.unchanged(one, NothingDone, one.undo)

    def test_puts_and_takes(self):
        one = Handing(B, source=(ANN,))
        one.put(BOB)
        one.take(ANN)
        one.put(EVE)
        self.holds(one, B, (EVE, BOB), 3)
        self.assertEqual(one.undo(), 2)
        self.holds(one, B, (BOB,), 2)
        self.assertEqual(one.undo(), 1)
        self.holds(one, B, (ANN, BOB), 1)
        one.put(EVE)
        self.assertEqual(one.undo(), 1)
        self.assertEqual(one.undo(), 0)
        self.holds(one, B, (ANN,), 0)

    def test_a_put_that_changed_nothing(self):
        one = Handing(B, source=(ANN,))
        one.put(ANN)
        one.put(BOB)
        one.put(BOB)
        self.assertEqual(one.undo(), 2)
        self.holds(one, B, (ANN, BOB), 2)
        self.assertEqual(one.undo(), 1)
        self.holds(one, B, (ANN,), 1)
        self.assertEqual(one.undo(), 0)
        self.holds(one, B, (ANN,), 0)

    def test_what_raised_an_error_is_not_taken_back(self):
        one = Handing(B)
        one.put(ANN)
        self.unchanged(one, BadFact, one.put, ("in", "a", "b"))
        self.unchanged(one, NoFact, one.take, BOB)
        self.assertEqual(one.undo(), 0)
        self.holds(one, B, (), 0)

    def test_eighty_changes(self):
        numbers = chance(61)
        one = Handing(KEYED)
        sources = []
        for number in range(80):
            self.assertEqual(len(one), number)
            sources.append(one.source)
            fact = ("q", numbers.choice("abc"), numbers.choice("abc"))
            if fact in one.source and numbers.randrange(3):
                one.take(fact)
            else:
                one.put(fact)
        for number in range(79, -1, -1):
            self.assertEqual(one.undo(), number)
            self.holds(one, KEYED, sources[number], number)
        self.unchanged(one, NothingDone, one.undo)


class TwinTest(Base):
    def test_the_same(self):
        one = Handing(B, source=(ANN,))
        one.put(BOB)
        one.put(BOB)
        twin = one.twin()
        self.assertIsInstance(twin, Handing)
        self.assertIsNot(twin, one)
        self.holds(twin, B, (ANN, BOB), 2)
        self.assertEqual(twin.undo(), 1)
        self.assertEqual(twin.undo(), 0)
        self.holds(twin, B, (ANN,), 0)
        self.holds(one, B, (ANN, BOB), 2)

    def test_edited_in_turn(self):
        one = Handing(B, source=(ANN,))
        one.put(EVE)
        twin = one.twin()
        one.put(BOB)
        self.holds(twin, B, (EVE, ANN), 1)
        twin.take(ANN)
        twin.take(EVE)
        self.holds(one, B, (EVE, ANN, BOB), 2)
        self.holds(twin, B, (), 3)
        self.assertEqual(one.undo(), 1)
        self.holds(twin, B, (), 3)
        self.assertEqual(twin.undo(), 2)
        self.holds(twin, B, (EVE,), 2)
        self.holds(one, B, (EVE, ANN), 1)
        third = twin.twin()
        third.undo()
        self.holds(twin, B, (EVE,), 2)
        self.holds(third, B, (EVE, ANN), 1)

    def test_no_changes(self):
        twin = Handing(B).twin()
        self.holds(twin, B, (), 0)
        self.unchanged(twin, NothingDone, twin.undo)


class EqualTest(Base):
    def told(self, one, other, answer):
        self.assertIs(one == other, answer)
        self.assertIs(other == one, answer)
        self.assertIs(one != other, not answer)
        self.assertIs(other != one, not answer)

    def test_twin(self):
        one = Handing(B, source=(ANN,))
        twin = one.twin()
        self.told(one, one, True)
        self.told(one, twin, True)
        one.put(BOB)
        self.told(one, twin, False)
        twin.put(BOB)
        self.told(one, twin, True)

    def test_another_book(self):
        self.told(Handing(B), Handing(KEYED), False)
        self.told(Handing(B), Handing(((R,), (("in", (0,)),))), False)
        self.told(Handing(B), Handing(((R, R), ())), False)
        self.told(Handing(B), Handing(((R,), ())), True)

    def test_another_source(self):
        self.told(Handing(B), Handing(B, source=(ANN,)), False)
        self.told(Handing(B, source=(BOB,)), Handing(B, source=(ANN,)), False)

    def test_the_same_source_by_another_way(self):
        one = Handing(B, source=(ANN, BOB))
        other = Handing(B)
        other.put(BOB)
        other.put(EVE)
        other.put(ANN)
        other.take(EVE)
        self.told(one, other, True)
        self.assertNotEqual(len(one), len(other))
        other.undo()
        self.told(one, other, False)

    def test_other_kinds(self):
        one = Handing(B, source=(ANN,))
        for value in ODD_VALUES + (B, (B, (ANN,)), (ANN,), ANN):
            self.told(one, value, False)


class AllTest(Base):
    def test_changes_tell_whether_something_else_comes(self):
        numbers = chance(62)
        told = []
        for _ in range(60):
            book = some_book(numbers, 2, 2)
            one = Handing(book, source=some_source(numbers, book, 2))
            for _ in range(10):
                before = self.state(one)[2:4]
                more = some_source(numbers, book, 3)
                if one.source and numbers.randrange(2):
                    told.append(one.take(numbers.choice(one.source)))
                elif more:
                    told.append(one.put(numbers.choice(more)))
                else:
                    told.append(one.put(("zoo", "a")))
                self.assertIs(told[-1], self.state(one)[2:4] != before)
                self.assertIs(one.has_right(), slow_handed(book, one.source) is not None)
                if one.has_right():
                    question = (("A",), (("v", "A", "B"),))
                    self.assertEqual(one.sure(question), sure(book, one.source, question))
        self.assertGreater(told.count(True), 100)
        self.assertGreater(told.count(False), 100)


if __name__ == "__main__":
    unittest.main()
