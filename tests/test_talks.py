import unittest

from corestore.desk import Handing
from corestore.errors import Clash, CoreError, NoFact, NothingDone
from corestore.stores import is_fact
from corestore.talks import Talk
from helper import (B, BODY_WIDTHS, ODD_VALUES, R, chance, rule, some_book, some_facts, some_question, some_source,
                    store)

ANN, BOB = ("emp", "ann", "rome"), ("emp", "bob", "rome")
KEYED = ((rule("q A B", "v A B"),), (("v", (0,)),))


class Base(unittest.TestCase):
    def says(self, talk, *rows):
        """Each row is a line and its answer, with an arrow between them."""
        for row in rows:
            line, answer = row.split(" -> ")
            told = talk.say(line)
            self.assertEqual(told, answer, line)
            self.assertIs(type(told), str)
            self.assertEqual(talk.heard[-1], (line, answer))

    def what(self, talk, *values):
        """None of the values says anything, and nothing is changed by them."""
        source, many = talk.handing.source, len(talk.handing)
        for value in values:
            self.assertEqual(talk.say(value), "what", value)
            self.assertEqual(talk.heard[-1], (value if isinstance(value, str) else None, "what"))
            self.assertEqual((talk.handing.source, len(talk.handing)), (source, many))


class ChangeTest(Base):
    def test_put(self):
        talk = Talk(Handing(B))
        self.says(talk, "put emp ann rome -> new", "put emp ann rome -> same", "put zoo a -> same",
                  "put emp bob rome -> new")
        self.assertEqual(talk.handing.source, (ANN, BOB, ("zoo", "a")))
        self.assertEqual(len(talk.handing), 4)

    def test_take(self):
        talk = Talk(Handing(B, source=(ANN, BOB, ("zoo", "a"))))
        self.says(talk, "take zoo a -> same", "take emp ann rome -> new", "take emp ann rome -> no NoFact")
        self.assertEqual(talk.handing.source, (BOB,))
        self.assertEqual(len(talk.handing), 2)

    def test_facts_of_each_length(self):
        talk = Talk(Handing(B))
        self.says(talk, "put za a -> same", "put zb a b -> same", "put zc a b c -> same", "put zd a b c d -> same",
                  "take za a -> same", "take zb a b -> same", "take zc a b c -> same", "take zd a b c d -> same",
                  "size -> 0")

    def test_facts_that_cannot_be_put(self):
        talk = Talk(Handing(B))
        self.says(talk, "put has a b -> no BadFact", "put in a -> no BadFact", "put emp a -> no BadFact",
                  "put emp a b c -> no BadFact", "put emp ?1 rome -> no BadFact", "put zoo ?99999 -> no BadFact",
                  "put zoo a -> same", "put zoo a b -> no BadFact", "source -> zoo a")
        self.assertEqual(len(talk.handing), 1)

    def test_facts_that_cannot_be_taken(self):
        talk = Talk(Handing(B, source=(ANN,)))
        self.says(talk, "take emp ann oslo -> no NoFact", "take emp ann -> no NoFact", "take emp ?1 rome -> no NoFact",
                  "take has a b -> no NoFact", "take emp ann rome rome -> no NoFact",
                  "take zoo ?1 ?2 ?3 ?4 -> no NoFact")
        self.assertEqual(talk.handing.source, (ANN,))

    def test_words_that_are_no_fact(self):
        talk = Talk(Handing(B, source=(ANN,)))
        for word in ("put", "take"):
            self.what(talk, word, word + " ", word + " emp", word + " emp ", word + " emp a b c d e",
                      word + " emp a b c d ?1", word + " emp ann  rome", word + "  emp ann rome",
                      word + " emp ann rome ", " " + word + " emp ann rome", word + " ?1 ann rome",
                      word + " Emp ann rome", word + " emp Ann rome", word + " emp A B", word + " emp ann ?0",
                      word + " emp ann ?100000", word + " emp ann abcdefghi", word + " abcdefghi ann rome",
                      word + " emp ann rome\n", word + "\nemp ann rome", word + " emp ann\nrome",
                      word + " emp ann, rome", word + " emp ann rome : a", word.upper() + " emp ann rome",
                      word + " emp ann 1", word + " ('emp', 'ann', 'rome')", word + "emp ann rome")

    def test_undo(self):
        talk = Talk(Handing(B))
        self.says(talk, "undo -> no NothingDone", "put emp ann rome -> new", "put emp ann rome -> same",
                  "take emp ann rome -> new", "undo -> left 2", "source -> emp ann rome", "undo -> left 1",
                  "source -> emp ann rome", "put has a b -> no BadFact", "undo -> left 0", "source -> -",
                  "undo -> no NothingDone")

    def test_more_than_nine_changes(self):
        talk = Talk(Handing(B))
        for _ in range(12):
            talk.say("put emp ann rome")
        self.says(talk, "undo -> left 11", "undo -> left 10", "undo -> left 9")

    def test_from_right_to_none(self):
        talk = Talk(Handing(KEYED, source=store("q a b")))
        self.says(talk, "put q a c -> new", "put q b c -> same", "take q b c -> same", "take q a b -> new")


class AskTest(Base):
    def test_least(self):
        talk = Talk(Handing(B))
        self.says(talk, "least -> -")
        talk = Talk(Handing(((R,), (("in", (1,)),)), source=(ANN, BOB)))
        self.says(talk, "least -> has ?1 ann; has ?1 bob; in ?1 rome")
        talk = Talk(Handing(KEYED, source=store("q a b, q a c")))
        self.says(talk, "least -> no Clash", "take q a b -> new", "least -> v a c")
        self.says(Talk(Handing(B, source=(("zoo", "a"),))), "least -> -")

    def test_source(self):
        talk = Talk(Handing(B))
        self.says(talk, "source -> -", "put emp bob rome -> new", "source -> emp bob rome", "put emp ann rome -> new",
                  "put zd a b c d -> same", "put za a -> same",
                  "source -> emp ann rome; emp bob rome; za a; zd a b c d")
        self.says(Talk(Handing(KEYED, source=store("q a b, q a c"))), "source -> q a b; q a c")

    def test_size(self):
        talk = Talk(Handing(B))
        self.says(talk, "size -> 0", "put emp ann rome -> new", "size -> 1", "put emp ann rome -> same", "size -> 1",
                  "put za a -> same", "size -> 2", "undo -> left 2", "size -> 1")
        facts = tuple(("za", one + other) for one in "abc" for other in "abcd")
        self.says(Talk(Handing(B, source=facts)), "size -> 12")
        self.says(Talk(Handing(KEYED, source=store("q a b, q a c"))), "size -> 2")

    def test_ask(self):
        talk = Talk(Handing(B, source=(ANN, BOB, ("emp", "eve", "oslo"))))
        self.says(talk, "ask A : has C A , in C rome -> ann; bob", "ask A B : has C A , in C B -> ann rome; bob rome; "
                  "eve oslo", "ask B A B : has C A , in C B -> oslo eve oslo; rome ann rome; rome bob rome",
                  "ask B : in A B -> oslo; rome", "ask A : has A B -> -", "ask A : emp A B -> -", "ask A : zoo A -> -",
                  "ask A : has A -> -", "ask Z : has Y Z , in Y oslo -> eve", "ask A A A : in B A -> oslo oslo oslo; "
                  "rome rome rome")

    def test_ask_without_out(self):
        talk = Talk(Handing(B, source=(ANN,)))
        self.says(talk, "ask : has C ann , in C rome -> yes", "ask : has C bob -> -", "ask : zoo a -> -",
                  "ask : in A B -> yes", "ask : in a b -> -")

    def test_one_to_three_atoms(self):
        talk = Talk(Handing(B, source=(ANN,)))
        self.says(talk, "ask A : has B A -> ann", "ask A : has B A , in B C -> ann",
                  "ask A : has B A , in B C , in D C -> ann")
        # Atoms stand as in a body, which has at most three.
        self.what(talk, "ask A : has B A , in B C , in D C , has D A")

    def test_ask_where_no_store_is_right(self):
        talk = Talk(Handing(KEYED, source=store("q a b, q a c")))
        self.says(talk, "ask A : v A B -> no Clash", "ask : v a b -> no Clash", "ask : zoo a -> no Clash")
        # It is judged first whether the line asks a question.
        self.what(talk, "ask A : v B B")

    def test_no_questions(self):
        self.what(Talk(Handing(B, source=(ANN,))),
                  "ask", "ask ", "ask A", "ask :", "ask : ", "ask A :", "ask A : ", "ask A has B A", "ask : A",
                  "ask A B C D : has A B , in C D", "ask A A A A : has B A", "ask a : has A a", "ask ann : has B ann",
                  "ask ?1 : has B ?1", "ask A : has B ?1", "ask A : has", "ask A : has B A ,", "ask A : has B A , in",
                  "ask A : has B A :", "ask A : has B A : in B C", "ask A : : has B A", "ask : : has B A",
                  "ask  A : has B A", "ask A  : has B A", "ask A :  has B A", "ask A : has  B A", "ask A : has B A ",
                  "ask : has B A , , in B C", "ask : , has B A", "ask  : has B A", " ask A : has B A",
                  "ask A , B : has A B", "ask A : has B C", "ask A D : has A B", "ask A : has B A C D A",
                  "ask A B C : w A B C D , w E A B C", "ask : w A B C D , u E", "ask A : has B A , has A",
                  "ask A : has A , has A B", "ask AB : has AB A", "ask A: has B A", "ask A :has B A",
                  "ask A : has B A, in B C", "ask A : has B A\n", "ask\nA : has B A", "ask A : has B\nA",
                  "ask A : abcdefghi A", "ask A : has abcdefghi A", "ask A : Has B A", "ASK A : has B A",
                  "ask A ; has B A", "ask A : has B A ! in 1", "ask A : has B 1", "ask A , : has A B")

    def test_variables_in_atoms(self):
        talk = Talk(Handing(B, source=(ANN,)))
        self.says(talk, "ask A B : has D A , in D B , in C B -> ann rome")
        self.what(talk, "ask A B C : has D A , in D B , in E C")

    def test_answers_without_unknowns(self):
        numbers = chance(121)
        seen = 0
        for _ in range(500):
            book = some_book(numbers, 3, 1)
            one = Handing(book, source=some_source(numbers, book))
            out, atoms = some_question(numbers)
            if len(atoms) < 4:
                words = ["ask", *out, ":", " , ".join(" ".join(atom) for atom in atoms)]
                try:
                    rows = one.sure((out, atoms))
                    answer = "; ".join(" ".join(row) for row in rows) if rows else "-"
                    seen += bool(rows)
                except Clash:
                    answer = "no Clash"
                self.assertEqual(Talk(one).say(" ".join(words)), answer or "yes")
        self.assertGreater(seen, 30)


class WhatTest(Base):
    def test_lines_of_other_words(self):
        self.what(Talk(Handing(B, source=(ANN,))),
                  "", " ", "what", "hello", "\n", "new", "same", "puts emp a b", "Put emp a b", "source.",
                  "emp ann rome",
                  "has_right", "say size", "-", "?", "!", "! in 1", ":", "emp A B : has C A", "heard", "handing")

    def test_a_word_too_many(self):
        talk = Talk(Handing(B, source=(ANN,)))
        talk.say("put emp bob rome")
        for word in ("undo", "least", "source", "size"):
            self.what(talk, word + " ", " " + word, word + " 1", word + " emp ann rome", word + "\n", word.upper(),
                      word + " " + word, word + ".", word[:-1], word + "\r", word + "  ", "\n" + word)

    def test_values_that_are_no_strings(self):
        talk = Talk(Handing(B, source=(ANN,)))
        for value in ODD_VALUES + (["size"], ("size",), b"size", ["put", "emp", "a", "b"], Talk, talk):
            if not isinstance(value, str):
                self.what(talk, value)

    def test_long_lines(self):
        self.what(Talk(Handing(B)), "put emp" + " a" * 100000, "a" * 1000000, "ask" + " A" * 100000 + " : has A B",
                  "ask A : " + "has A B , " * 100000, " " * 100000, "size" * 1000)


class HeardTest(Base):
    def test_in_order(self):
        talk = Talk(Handing(B))
        self.assertEqual(talk.heard, ())
        talk.say("size")
        self.assertEqual(talk.heard, (("size", "0"),))
        talk.say("put emp ann rome")
        talk.say("undo")
        talk.say("undo")
        talk.say(None)
        talk.say("")
        self.assertEqual(talk.heard, (("size", "0"), ("put emp ann rome", "new"), ("undo", "left 0"),
                                      ("undo", "no NothingDone"), (None, "what"), ("", "what")))
        self.assertEqual(talk.heard, talk.heard)
        self.assertIsInstance(talk.heard, tuple)

    def test_the_last_eight(self):
        talk = Talk(Handing(B))
        pairs = []
        for number in range(30):
            line = [f"put za {'abcdefghij'[number % 10]}", "size", 7, f"say {number}"][number % 4]
            pairs.append((line if isinstance(line, str) else None, talk.say(line)))
            self.assertEqual(talk.heard, tuple(pairs[-8:]))
        self.assertEqual(len(talk.heard), 8)

    def test_a_list_changed_later(self):
        talk = Talk(Handing(B))
        value = ["size"]
        talk.say(value)
        value.append("size")
        self.assertEqual(talk.heard, ((None, "what"),))
        before = talk.heard
        talk.say("size")
        self.assertEqual(before, ((None, "what"),))

    def test_properties_cannot_be_assigned(self):
        talk = Talk(Handing(B))
        for name in ("heard", "handing"):
            self.assertIsInstance(getattr(Talk, name), property)
            with self.assertRaises(AttributeError):
                setattr(talk, name, ())


class HandingTest(Base):
    def test_the_very_handing(self):
        one = Handing(B, source=(ANN,))
        for talk in (Talk(one), Talk(handing=one)):
            self.assertIs(talk.handing, one)
            talk.say("put emp bob rome")
            talk.say("undo")
            self.assertIs(talk.handing, one)

    def test_edits_made_directly(self):
        one = Handing(B)
        talk = Talk(one)
        one.put(ANN)
        self.says(talk, "size -> 1", "source -> emp ann rome", "put emp ann rome -> same", "undo -> left 1")
        one.undo()
        self.says(talk, "source -> -", "undo -> no NothingDone", "put emp bob rome -> new")
        self.assertEqual((one.source, len(one)), ((BOB,), 1))
        one.take(BOB)
        self.says(talk, "take emp bob rome -> no NoFact", "least -> -", "undo -> left 1", "size -> 1")

    def test_two_talks_about_one(self):
        one = Handing(B)
        talk, other = Talk(one), Talk(one)
        self.says(talk, "put emp ann rome -> new")
        self.says(other, "put emp ann rome -> same", "undo -> left 1", "source -> emp ann rome")
        self.says(talk, "undo -> left 0")
        self.assertEqual(talk.heard, (("put emp ann rome", "new"), ("undo", "left 0")))
        self.assertEqual(other.heard[0], ("put emp ann rome", "same"))
        self.assertEqual(len(other.heard), 3)

    def test_a_twin_goes_on_by_itself(self):
        one = Handing(B)
        talk, other = Talk(one), Talk(one.twin())
        self.says(talk, "put emp ann rome -> new")
        self.says(other, "size -> 0", "undo -> no NothingDone")

    def test_as_the_handing_itself(self):
        numbers = chance(122)
        kinds = set()
        for _ in range(150):
            book = some_book(numbers)
            one = Handing(book, source=some_source(numbers, book, 1))
            talk, own = Talk(one), one.twin()
            for _ in range(12):
                fact = (some_facts(numbers, 1, ["a", "b"], BODY_WIDTHS) or (("u", "a"),))[0]
                word = numbers.choice(["put", "put", "put", "take", "undo"])
                line = "undo" if word == "undo" else " ".join((word, *fact))
                try:
                    if word == "undo":
                        answer = f"left {own.undo()}"
                    else:
                        answer = "new" if {"put": own.put, "take": own.take}[word](fact) else "same"
                except CoreError as error:
                    self.assertTrue(is_fact(fact))
                    answer = f"no {type(error).__name__}"
                self.assertEqual(talk.say(line), answer)
                self.assertEqual((talk.handing, len(one)), (own, len(own)))
                kinds.add(answer)
        for answer in ("new", "same", "left 0", "no BadFact", "no NoFact", "no NothingDone"):
            self.assertIn(answer, kinds)

    def test_each_error_of_the_package_that_can_come(self):
        clash = Talk(Handing(KEYED, source=store("q a b, q a c")))
        for line, name in (("put v a b", "BadFact"), ("take q b b", "NoFact"), ("undo", "NothingDone"),
                           ("least", "Clash"), ("ask A : v A B", "Clash")):
            self.says(clash, f"{line} -> no {name}")
        self.assertRaises(NoFact, clash.handing.take, ("q", "b", "b"))
        self.assertRaises(NothingDone, clash.handing.undo)


if __name__ == "__main__":
    unittest.main()
