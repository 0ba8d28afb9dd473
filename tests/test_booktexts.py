import re
import unittest

from corestore.books import is_book
from corestore.booktexts import book_text, read_book
from corestore.errors import BadText, CoreError
from helper import B, ODD_SIGNS, R, chance, rule, some_book, spoiled

RULE = "emp A B : has C A , in C B\n"
ATOM = "w[wV]{1,4}"
SIDE = f"{ATOM}(,{ATOM}){{0,2}}"
WHOLE = re.compile(f"{SIDE}:{SIDE}")


def sort_of(word):
    """One sign for each sort of words: a relation or constant, a variable, a sign of its own, another one."""
    if re.fullmatch("[a-z]{1,8}", word):
        return "w"
    if re.fullmatch("[A-Z]", word):
        return "V"
    return word if word in (",", ":") else "x"


def slow_words_fault(words):
    """The number of the first word of the text line of a rule that cannot stand there; None if there is none."""
    sorts = "".join(sort_of(word) for word in words)
    for at in range(len(words)):
        # A start is right if words can be put behind it so that a whole text line comes.
        if not any(WHOLE.fullmatch(sorts[:at + 1] + rest) for rest in ("", "w", "ww", ":ww", "w:ww", "ww:ww")):
            return at
    return None if WHOLE.fullmatch(sorts) else len(words)


def made_rule(words):
    """The rule of right words."""
    sides = [[[]], [[]]]
    number = 0
    for word in words:
        if word == ":":
            number = 1
        elif word == ",":
            sides[number].append([])
        else:
            sides[number][-1].append(word)
    return tuple(tuple(tuple(atom) for atom in side) for side in sides)


def slow_key_fault(rules, words):
    """The number of the first word of the text line of a key that cannot stand there; None if there is none."""
    table = {atom[0]: len(atom) - 1 for _, head in rules for atom in head}
    if len(words) < 2 or words[1] not in table:
        return 1
    for at, word in enumerate(words[2:], 2):
        if word not in ("0", "1", "2", "3") or int(word) >= table[words[1]] or at > 2 and word <= words[at - 1]:
            return at
    return 2 if len(words) == 2 else None


def slow_fault(text):
    """The place of the fault of a text of a book, word by word; None if there is none."""
    lines = text.split("\n")
    if lines[-1] == "":
        lines.pop()
    rules, many = (), 0
    for number, line in enumerate(lines):
        words = line.split(" ")
        if words[0] == "!":
            fault = slow_key_fault(rules, words) if many < 3 else 0
            many += 1
        else:
            fault = slow_words_fault(words) if many == 0 else 0
            if fault is None:
                rules += (made_rule(words),)
                fault = None if is_book((rules, ())) else 0
        if fault is not None:
            return number, fault
    return (len(lines), 0) if text == "" or text[-1] != "\n" else None


class Base(unittest.TestCase):
    def fault(self, text, line, word):
        with self.assertRaises(BadText) as caught:
            read_book(text)
        self.assertIs(type(caught.exception), BadText)
        self.assertIsInstance(caught.exception, CoreError)
        self.assertEqual((caught.exception.line, caught.exception.word), (line, word), text[:200])

    def reads(self, text, book):
        self.assertEqual(read_book(text), book)
        self.assertTrue(is_book(book))
        self.assertEqual(book_text(book), text)

    def faults(self, start, at, words):
        """Each of the words behind the start is wrong, whatever stands behind it."""
        start = start + " " if start else ""
        for word in words:
            for rest in ("", " ", " A b", " : has A", " has A", " , in A"):
                self.fault(f"{start}{word}{rest}\n", 0, at)


class BookTextTest(Base):
    def test_the_example(self):
        self.assertEqual(book_text(((R,), (("in", (1,)),))), "emp A B : has C A , in C B\n! in 1\n")
        self.reads(RULE + "! in 1\n", ((R,), (("in", (1,)),)))
        self.reads(RULE, B)

    def test_several_rules(self):
        rules = (rule("p A", "u A"), rule("q A B, q B C, p c", "v A C, u B, w A D E"), rule("s A b c d", "x A B C d"))
        self.reads("p A : u A\nq A B , q B C , p c : v A C , u B , w A D E\ns A b c d : x A B C d\n", (rules, ()))
        self.reads("p A : u A\n" * 4, (rules[:1] * 4, ()))

    def test_several_keys(self):
        rules = (rule("p A", "x A B C d, w A A A"), rule("q A b", "v A b"))
        keys = (("x", (0, 1, 2, 3)), ("v", (1,)), ("x", (1, 3)))
        self.reads("p A : x A B C d , w A A A\nq A b : v A b\n! x 0 1 2 3\n! v 1\n! x 1 3\n", (rules, keys))
        self.reads("p A : u A\n! u 0\n! u 0\n! u 0\n", ((rule("p A", "u A"),), (("u", (0,)),) * 3))

    def test_read_is_the_way_back(self):
        numbers = chance(101)
        for _ in range(400):
            book = some_book(numbers, 4, 3, ("a", "abcdefgh"))
            self.reads(book_text(book), book)


class EndTest(Base):
    def test_the_empty_text(self):
        self.fault("", 0, 0)

    def test_no_line_feed_at_the_end(self):
        self.fault("emp A B : has C A", 1, 0)
        self.fault(RULE + "! in 1", 2, 0)
        self.fault(RULE + "emp A B : out A", 2, 0)
        # Another fault comes ahead, also one in the last text line.
        self.fault("emp A B", 0, 3)
        self.fault("emp A B : has", 0, 5)
        self.fault(RULE + "! in", 1, 2)
        self.fault(RULE + "!", 1, 1)
        self.fault(RULE + " ", 1, 0)
        self.fault(RULE + "! in 1\nemp", 2, 0)
        self.fault(RULE + "emp A : has A B", 1, 0)

    def test_empty_text_lines(self):
        self.fault("\n", 0, 0)
        self.fault("\n" + RULE, 0, 0)
        self.fault(RULE + "\n", 1, 0)
        self.fault(RULE + "\n" + RULE, 1, 0)
        self.fault(RULE + "! in 1\n\n", 2, 0)

    def test_only_a_line_feed_ends_a_text_line(self):
        for sign in ("\r", "\v", "\f", "\x1c", "\x85", "\u2028"):
            self.fault(f"p A : u A{sign}p B : u B\n", 0, 4)
            self.fault(RULE + f"! in 1{sign}\n", 1, 2)

    def test_long_texts(self):
        self.fault("p A , " * 200000, 0, 8)
        self.fault("a" * 1000000, 0, 0)
        self.fault("\n" * 1000000, 0, 0)
        self.fault("p A : u A\n" * 100000, 4, 0)
        self.fault("p A : u A\n" + "! u 0\n" * 100000, 4, 0)
        self.fault("p A : u A\n! u" + " 0" * 100000, 1, 3)
        self.fault("p " + "A" * 1000000, 0, 1)


class RuleTest(Base):
    NO_WORDS = ("", "?1", "1", "Ab", "aB", "abcdefghi", "\t", "\u00e9", "\uff21", ";", "a,", "a:", "!a", "?")

    def test_a_relation(self):
        wrong = self.NO_WORDS + (",", ":", "A", "Z")
        self.faults("", 0, wrong)
        self.faults("p A ,", 3, wrong + ("!",))
        self.faults("p A :", 3, wrong + ("!",))
        self.faults("p A : u A ,", 6, wrong + ("!",))
        self.faults("p A b C d , q B c :", 10, wrong)

    def test_a_first_term(self):
        wrong = self.NO_WORDS + (",", ":", "!")
        self.faults("p", 1, wrong)
        self.faults("p A , q", 4, wrong)
        self.faults("p A : u", 4, wrong)
        self.faults("p A : u A , v", 7, wrong)

    def test_behind_a_term(self):
        wrong = self.NO_WORDS + ("!",)
        for many in range(1, 4):
            self.faults("p" + " A" * many, 1 + many, wrong)
            self.faults("p A : u" + " B" * many, 4 + many, wrong)

    def test_a_second_colon(self):
        self.faults("p A : u A", 5, (":",))
        self.faults("p A : u A , v A", 8, (":",))
        self.faults("p A : u A , v A , w A", 11, (":",))
        self.faults("p A : u A b C d", 8, (":",))

    def test_a_fifth_term(self):
        self.faults("p A B C a", 5, ("A", "a", "abcdefgh", "Z"))
        self.faults("p A , q A B C a", 8, ("A", "a"))
        self.faults("p A : u A B C a", 8, ("A", "a"))
        self.faults("p A : u A , v A A A A", 11, ("A", "a"))
        self.reads("p A B C a : u A A A A\n", ((rule("p A B C a", "u A A A A"),), ()))

    def test_a_comma_behind_the_third_atom(self):
        self.faults("p A , p B , p C", 8, (",",))
        self.faults("p A a b c , p B , p C", 11, (",",))
        self.faults("p A : u A , u B , u C", 11, (",",))
        self.faults("p A , p B , p C : u A , u B , u C", 17, (",",))

    def test_something_is_missing_at_the_end(self):
        for text in ("p", "p A", "p A B C d", "p A ,", "p A , q", "p A , q A", "p A , q A , s", "p A , q A , s A",
                     "p A :", "p A : u", "p A : u A ,", "p A : u A , v", "p A : u A , v A , w",
                     "p A : u A , v A ,", "p A , q A :"):
            self.fault(text + "\n", 0, len(text.split(" ")))
            self.fault(text, 0, len(text.split(" ")))
            self.fault("p A : u A\n" + text + "\n", 1, len(text.split(" ")))
            self.fault(text + " \n", 0, len(text.split(" ")))

    def test_rules_that_are_no_book_together(self):
        for text in ("p A : p A", "p A , q A : u A , q A", "p A , p A B : u A", "p A : u A , u A B",
                     "p A , q A B , q C D : u A", "p A B C D : u A", "p A B C : u A D E F", "p A B C : u A , v D E F",
                     "p a : u A B C D , v E F", "p A : w B C D E , u F"):
            self.fault(text + "\n", 0, 0)
            self.fault("q A B : x A\n" + text + "\n", 1, 0)
            # A word that is wrong comes ahead.
            self.fault(text + " \n", 0, len(text.split(" ")))
        self.fault("p A : u A\nu A : v A\n", 1, 0)
        self.fault("p A : u A\nq A : p A\n", 1, 0)
        self.fault("p A : u A\np A B : u A\n", 1, 0)
        self.fault("p A : u A\nq A : u A B\n", 1, 0)
        self.fault("p A : u A\nq A : v A\nu A : w A\n", 2, 0)

    def test_the_fifth_rule(self):
        self.assertEqual(len(read_book("p A : u A\n" * 4)[0]), 4)
        self.fault("p A : u A\n" * 5, 4, 0)
        self.fault("p A : u A\n" * 6, 4, 0)
        self.fault("p A : u A\n" * 4 + "p A : u a B c D e\n", 4, 8)
        self.fault("p A : u A\n" * 4 + "p A\n", 4, 2)
        self.fault("p A : u A\n" * 4 + "\n", 4, 0)
        self.assertEqual(len(read_book("p A : u A\n" * 4 + "! u 0\n")[0]), 4)

    def test_as_many_variables_as_there_may_be(self):
        self.reads("p A B C : u A B C D , v D E\n", ((rule("p A B C", "u A B C D, v D E"),), ()))

    def test_the_first_fault_of_several(self):
        self.fault("p A : p A\np\n", 0, 0)
        self.fault("p A : u A\np\nq\n", 1, 1)
        self.fault("p A 1 : : u\n", 0, 2)


class KeyTest(Base):
    START = "p A : u A , v A B\nq A : x A B C D\n"

    def key_fault(self, text, word):
        self.fault(self.START + text + "\n", 2, word)
        self.fault(self.START + text, 2, word)
        self.fault(self.START + "! x 0 3\n" + text + "\n", 3, word)
        self.fault(self.START + text + "\n! zoo\n", 2, word)

    def test_the_sign_alone(self):
        self.key_fault("!", 1)
        self.key_fault("! ", 1)
        self.fault("!\n", 0, 1)
        self.fault("!", 0, 1)

    def test_a_relation_that_stands_in_no_head(self):
        for word in ("p", "q", "w", "zoo", "A", "0", "", "!", "?1", ":", "xx", "abcdefghi", "\u00e9"):
            self.key_fault(f"! {word}", 1)
            self.key_fault(f"! {word} 0", 1)
            self.key_fault(f"! {word} 9", 1)

    def test_in_the_first_text_line(self):
        self.fault("! u 0\n", 0, 1)
        self.fault("! u\n", 0, 1)
        self.fault("! u 0\np A : u A\n", 0, 1)

    def test_a_relation_of_a_rule_behind(self):
        self.fault("p A : u A\n! v 0\nq A : v A\n", 1, 1)

    def test_no_column(self):
        for word in "uvx":
            self.key_fault(f"! {word}", 2)
            self.key_fault(f"! {word} ", 2)

    def test_columns_that_are_no_digits(self):
        for word in ("", "4", "9", "-1", "00", "01", "10", "A", "a", "?1", ",", "!", "+1", "1 ", "\u0661", "\u00b9",
                     "\uff11", "0\r", "\t0", "012", "1.0", "0x"):
            self.key_fault(f"! x {word}", 3 if word == "1 " else 2)
            self.key_fault(f"! x 0 {word}", 4 if word == "1 " else 3)
            self.key_fault(f"! x 0 1 2 {word}", 5)

    def test_columns_beyond_the_terms(self):
        for text, at in (("u 1", 2), ("u 3", 2), ("u 0 1", 3), ("v 2", 2), ("v 0 2", 3), ("v 0 1 2", 4), ("x 4", 2),
                         ("x 0 1 2 3 4", 6), ("v 0 3", 3)):
            self.key_fault(f"! {text}", at)

    def test_columns_that_are_not_greater(self):
        for text, at in (("u 0 0", 3), ("v 1 0", 3), ("v 0 0", 3), ("v 0 1 1", 4), ("x 0 2 1", 4), ("x 3 0", 3),
                         ("x 1 2 2 3", 4), ("x 0 1 2 3 3", 6), ("x 0 1 2 3 0", 6), ("v 1 1", 3)):
            self.key_fault(f"! {text}", at)

    def test_all_columns(self):
        self.assertEqual(read_book(self.START + "! x 0 1 2 3\n! u 0\n! v 1\n")[1],
                         (("x", (0, 1, 2, 3)), ("u", (0,)), ("v", (1,))))

    def test_a_rule_behind_a_key(self):
        for text in ("p A : u A", "zoo A : zoa A", "p A : p A", "", " ", "p", "p A :", "\u00e9", "!!", "!u 0", ": !"):
            self.fault(self.START + "! u 0\n" + text + "\n", 3, 0)
            self.fault(self.START + "! u 0\n! v 0 1\n! x 3\n" + text + "\n", 5, 0)

    def test_the_fourth_key(self):
        start = self.START + "! u 0\n! v 0 1\n! x 3\n"
        self.assertEqual(len(read_book(start)[1]), 3)
        for text in ("! u 0", "!", "! ", "! zoo", "! u", "! u 7", "! x 1 0"):
            self.fault(start + text + "\n", 5, 0)
            self.fault(start + text, 5, 0)


class ReadBookTest(Base):
    def test_all_by_the_words_of_the_document(self):
        numbers = chance(102)
        seen = {}
        parts = ODD_SIGNS + [" , ", " : ", "! ", "! u 0\n", " A", " a", " 0", "1", "D", "u", "p A : u A\n"]
        for _ in range(8000):
            text = spoiled(numbers, book_text(some_book(numbers, 4, 3)), parts)
            place = slow_fault(text)
            seen[place] = seen.get(place, 0) + 1
            if place is None:
                self.reads(text, read_book(text))
            else:
                self.fault(text, *place)
        self.assertGreater(seen[None], 1000)
        self.assertGreater(len(seen), 40)

    def test_lines_of_words_of_all_kinds(self):
        numbers = chance(103)
        rights = 0
        for _ in range(8000):
            words = [numbers.choice(["p", "A", "b", ",", ":"]) for _ in range(numbers.randrange(1, 5))]
            start = numbers.choice([["p", "A"], ["p", "A", ":", "u"], ["p", "A", ",", "p"], ["p", "A", ":", "u", "A"],
                                    ["p", "A", ",", "p", "A", ",", "p", "A"], ["p", "A", "B", "C"], []])
            text = " ".join(start + words) + "\n"
            place = slow_fault(text)
            if place is None:
                rights += 1
                self.reads(text, read_book(text))
            else:
                self.fault(text, *place)
        self.assertGreater(rights, 200)


if __name__ == "__main__":
    unittest.main()
