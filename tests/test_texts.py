import re
import unittest

from corestore.errors import BadText, CoreError
from corestore.stores import is_store
from corestore.texts import read_store, store_text
from helper import ODD_SIGNS, S, chance, numbered, some_store, spoiled, stand_in

VALUE = re.compile(r"[a-z]{1,8}|\?[1-9][0-9]{0,4}")


def slow_fault(text):
    """The place of the fault of a text of a store, word by word; None if there is none."""
    lines = text.split("\n")
    if lines[-1] == "":
        lines.pop()
    facts = []
    for number, line in enumerate(lines):
        words = line.split(" ")
        for at, word in enumerate(words):
            if at > 4 or not VALUE.fullmatch(word) or at == 0 and word[0] == "?":
                return number, at
        if len(words) == 1:
            return number, 1
        fact = tuple(words)
        uneven = any(other[0] == fact[0] and len(other) != len(fact) for other in facts)
        greater = not facts or facts[-1] < fact
        facts.append(fact)
        if uneven or not greater or len(facts) > 30 or len(stand_in(facts)) > 5:
            return number, 0
    return (len(lines), 0) if text and text[-1] != "\n" else None


class Base(unittest.TestCase):
    def fault(self, text, line, word):
        with self.assertRaises(BadText) as caught:
            read_store(text)
        self.assertIs(type(caught.exception), BadText)
        self.assertIsInstance(caught.exception, CoreError)
        self.assertEqual((caught.exception.line, caught.exception.word), (line, word), text[:200])

    def reads(self, text, store):
        self.assertEqual(read_store(text), store)
        self.assertTrue(is_store(store))
        self.assertEqual(store_text(store), text)


class StoreTextTest(Base):
    def test_without_facts(self):
        self.assertEqual(store_text(()), "")
        self.reads("", ())

    def test_facts_of_each_length(self):
        self.reads("at a\n", (("at", "a"),))
        self.reads("at a\nby a b\nin a b c\nto a b c d\n",
                   (("at", "a"), ("by", "a", "b"), ("in", "a", "b", "c"), ("to", "a", "b", "c", "d")))
        self.reads("abcdefgh abcdefgh\n", (("abcdefgh", "abcdefgh"),))

    def test_unknowns(self):
        self.reads("has ?3 ann\nhas ?7 ann\nin ?3 rome\n", S)
        self.reads("at ?1\nat ?10\nat ?2\nat ?99999\nat a\n",
                   (("at", "?1"), ("at", "?10"), ("at", "?2"), ("at", "?99999"), ("at", "a")))

    def test_in_order(self):
        self.assertEqual(store_text((("by", "?1", "b"), ("by", "a", "?1"))), "by ?1 b\nby a ?1\n")

    def test_read_is_the_way_back(self):
        numbers = chance(91)
        for _ in range(400):
            store = some_store(numbers, numbered(5), ["a", "b", "abcdefgh"], numbers.randrange(31))
            text = store_text(store)
            self.assertEqual(text, "".join(" ".join(fact) + "\n" for fact in store))
            self.reads(text, store)


class ReadStoreTest(Base):
    def test_the_example(self):
        self.fault("a b", 1, 0)

    def test_no_line_feed_at_the_end(self):
        self.fault("at a\nby a b", 2, 0)
        self.fault("at a\nby a b\nby a c", 3, 0)
        # Another fault comes ahead, also one in the last text line.
        self.fault("at a\nby a B", 1, 2)
        self.fault("at A\nby a b", 0, 1)
        self.fault("at a\nat", 1, 1)
        self.fault("at a\nat a", 1, 0)
        self.fault("at a\n ", 1, 0)
        self.fault("at", 0, 1)
        self.fault(" ", 0, 0)

    def test_empty_text_lines(self):
        self.fault("\n", 0, 0)
        self.fault("\n\n", 0, 0)
        self.fault("\nat a\n", 0, 0)
        self.fault("at a\n\nat b\n", 1, 0)
        self.fault("at a\n\n", 1, 0)

    def test_empty_words(self):
        self.fault(" at a\n", 0, 0)
        self.fault("at a \n", 0, 2)
        self.fault("at  a\n", 0, 1)
        self.fault("at   a\n", 0, 1)
        self.fault("at ?1  a\n", 0, 2)
        self.fault("at \n", 0, 1)
        self.fault("at a\n at b\n", 1, 0)
        self.fault("to a b c d \n", 0, 5)

    def test_a_relation_alone(self):
        self.fault("at\n", 0, 1)
        self.fault("at a\nby\n", 1, 1)
        # Its fault is at word 1, though the fact would be out of order, too.
        self.fault("at a\naa\n", 1, 1)

    def test_four_and_five_values(self):
        self.reads("to a b c d\n", (("to", "a", "b", "c", "d"),))
        self.fault("to a b c d e\n", 0, 5)
        self.fault("to a b c d E f\n", 0, 5)
        self.fault("to a b C d e\n", 0, 3)
        self.fault("to a b c d ?1\n", 0, 5)

    def test_words_that_are_wrong(self):
        for word in ("A", "Ab", "aB", "abcdefghi", "1", "a1", "?", "?0", "?01", "?100000", "?-1", "? 1", "?a", "?1a",
                     "??1", "a?1", "a_b", "a-b", "\t", "a\t", "\r", "a\r", "", "\u00e9", "\u0131", "?\u0661", "\u00b2",
                     "\uff41", "?\uff11", "a,b", "a.", "'a'", "!", ":", ",", "\0", "a\0", "?1\u00b2", "?12345a",
                     "\U0001f600", "\ud800"):
            for text, at in (("at W\n", 1), ("by a W\n", 2), ("by W a\n", 1), ("in a b W\n", 3), ("to a b c W\n", 4)):
                self.fault(text.replace("W", word), 0, at)
                self.fault("aa a\n" + text.replace("W", word), 1, at)
            self.fault(f"{word} a\n", 0, 0)
            self.fault(f"aa a\n{word} a\n", 1, 0)
        self.fault("?1 a\n", 0, 0)

    def test_words_that_can_stand(self):
        for word in ("a", "z", "abcdefgh", "?1", "?9", "?10", "?12345", "?99999"):
            self.reads(f"at {word}\n", (("at", word),))

    def test_other_numbers_of_values(self):
        self.fault("at a\nat b c\n", 1, 0)
        self.fault("at a b\nat b\n", 1, 0)
        self.fault("at a b\nat b c\nat c\n", 2, 0)
        self.reads("at a\nby a b\n", (("at", "a"), ("by", "a", "b")))

    def test_order(self):
        self.fault("at a\nat a\n", 1, 0)
        self.fault("at b\nat a\n", 1, 0)
        self.fault("by a a\nat b\n", 1, 0)
        self.fault("at ?2\nat ?10\n", 1, 0)
        self.fault("at a\nat ?1\n", 1, 0)
        self.fault("at a\nat c\nat b\n", 2, 0)

    def test_the_thirty_first_fact(self):
        lines = [f"at {one}{other}\n" for one in "abcdef" for other in "abcdef"]
        self.assertEqual(len(read_store("".join(lines[:30]))), 30)
        for many in (31, 32, 36):
            self.fault("".join(lines[:many]), 30, 0)
        self.fault("".join(lines[:30]) + "AT a\n", 30, 0)
        self.fault("".join(lines[:30]) + "by\n", 30, 1)
        self.fault("".join(lines[:30]) + "by a A\n", 30, 2)
        self.fault("".join(lines[:30])[:-1], 30, 0)
        self.fault("".join(lines[:31])[:-1], 30, 0)

    def test_the_sixth_unknown(self):
        self.assertEqual(len(read_store("by ?1 ?2\nby ?2 ?3\nby ?3 ?4\nby ?4 ?5\nby ?5 ?1\n")), 5)
        self.fault("by ?1 ?2\nby ?2 ?3\nby ?3 ?4\nby ?4 ?5\nby ?5 ?6\n", 4, 0)
        self.fault("to ?1 ?2 ?3 ?4\nto ?5 ?6 a a\n", 1, 0)
        self.fault("to ?1 ?2 ?3 ?4\nto ?5 ?6 a A\n", 1, 4)
        self.fault("at ?1\nat ?2\nat ?3\nat ?4\nat ?5\nat ?6\nat ?7\n", 5, 0)

    def test_a_fault_of_a_word_ahead_of_these(self):
        self.fault("at a\nat b C\n", 1, 2)
        self.fault("at b\nat a \n", 1, 2)
        self.fault("by a a\nby a b c d e\n", 1, 5)

    def test_the_first_of_several(self):
        self.fault("at a\nat A\nby\n\n", 1, 1)
        self.fault("at a\nat a\nat A\n", 1, 0)
        self.fault("at\nat A\n", 0, 1)
        self.fault("A B C\n", 0, 0)
        self.fault("at a B C\n", 0, 2)

    def test_only_a_line_feed_ends_a_text_line(self):
        for sign in ("\r", "\r\n"[:1], "\v", "\f", "\x1c", "\x1d", "\x1e", "\x85", "\u2028", "\u2029"):
            self.fault(f"at a{sign}at b\n", 0, 1)
            self.fault(f"at a {sign}\n", 0, 2)
            self.fault(f"at a\n{sign}", 1, 0)
        self.fault("at a\r\nat b\r\n", 0, 1)

    def test_long_texts(self):
        self.fault("a " * 300000, 0, 5)
        self.fault("a" * 1000000, 0, 0)
        self.fault("at " + "a" * 1000000 + "\n", 0, 1)
        self.fault("at ?" + "1" * 1000000 + "\n", 0, 1)
        self.fault("\n" * 1000000, 0, 0)
        self.fault("at a\n" * 300000, 1, 0)
        self.fault(" " * 1000000, 0, 0)
        self.fault("at a\n" + " " * 1000000, 1, 0)

    def test_all_by_the_words_of_the_document(self):
        numbers = chance(92)
        seen = {}
        for _ in range(6000):
            store = some_store(numbers, numbered(numbers.randrange(7)), ["a", "b", "abcdefgh"], numbers.randrange(12))
            text = spoiled(numbers, store_text(store), ODD_SIGNS + ["?", "?1", "a", "at", "by"])
            place = slow_fault(text)
            seen[place] = seen.get(place, 0) + 1
            if place is None:
                self.reads(text, read_store(text))
            else:
                self.fault(text, *place)
        self.assertGreater(seen[None], 200)
        self.assertGreater(len(seen), 20)


if __name__ == "__main__":
    unittest.main()
