"""The names, arguments and kinds of values that the interface lists, and what holds of all functions."""

import ast
import copy
import importlib
import inspect
import os
import subprocess
import sys
import unittest

from corestore.alls import follows, key_follows, parting, same_on, shortest
from corestore.asks import is_way, least_question, telling, way, within
from corestore.behind import has_through, is_behind, through
from corestore.books import is_book, is_rule, is_source
from corestore.booktexts import book_text, read_book
from corestore.changes import fewest, needless, news
from corestore.cores import blocks, core, folding, is_folding
from corestore.desk import Handing
from corestore.errors import BadText, Clash, CoreError
from corestore.handing import has_right, least
from corestore.leads import is_lead, lead, same
from corestore.questions import answers, sure
from corestore.right import broken, is_right
from corestore.shapes import Shape
from corestore.stores import is_store, plain, renamed, unknowns
from corestore.sums import beside, beside_all
from corestore.talks import Talk
from corestore.texts import read_store, store_text
from helper import B, R, S

ROOT = os.path.dirname(os.path.dirname(os.path.abspath(__file__)))
PACKAGE = os.path.join(ROOT, "corestore")

FUNCTIONS = {
    "stores": {"is_store": ["value"], "unknowns": ["store"], "renamed": ["store", "pairs"], "plain": ["store"]},
    "leads": {"lead": ["one", "other"], "is_lead": ["one", "other", "value"], "same": ["one", "other"]},
    "cores": {"folding": ["store"], "is_folding": ["store", "value"], "core": ["store"], "blocks": ["store"]},
    "books": {"is_book": ["value"], "is_rule": ["value"], "is_source": ["book", "value"]},
    "right": {"is_right": ["book", "source", "store"], "broken": ["book", "source", "store"]},
    "handing": {"has_right": ["book", "source"], "least": ["book", "source"]},
    "questions": {"answers": ["question", "store"], "sure": ["book", "source", "question"]},
    "alls": {"follows": ["book", "rule"], "same_on": ["one", "other", "source"], "parting": ["one", "other"],
             "key_follows": ["book", "key"], "shortest": ["book"]},
    "asks": {"within": ["one", "other"], "way": ["one", "other"], "is_way": ["one", "other", "value"],
             "telling": ["one", "other"], "least_question": ["question"]},
    "sums": {"beside": ["one", "other"], "beside_all": ["stores"]},
    "behind": {"is_behind": ["first", "second"], "through": ["first", "second", "source"],
               "has_through": ["first", "second", "source"]},
    "changes": {"needless": ["book", "source"], "fewest": ["book", "source"],
                "news": ["book", "source", "question", "fact"]},
    "texts": {"store_text": ["store"], "read_store": ["text"]},
    "booktexts": {"book_text": ["book"], "read_book": ["text"]},
}
CLASSES = {
    "errors": {"CoreError": None, "Clash": [], "BadSource": [], "BadFact": ["value"], "NoFact": ["value"],
               "NothingDone": [], "BadText": ["line", "word"]},
    "desk": {"Handing": ["book", "source"]},
    "shapes": {"Shape": ["store"]},
    "talks": {"Talk": ["handing"]},
}
# The methods that the interface lists for a class, with their arguments behind self.
METHODS = {
    ("desk", "Handing"): {"has_right": [], "least": [], "sure": ["question"], "put": ["fact"], "take": ["fact"],
                          "undo": [], "twin": [], "__len__": [], "__eq__": ["other"], "book": None, "source": None},
    ("shapes", "Shape"): {"leads": ["other"], "answers": ["question"], "__or__": ["other"], "__eq__": ["other"],
                          "__ne__": ["other"], "__contains__": ["value"], "__len__": [], "__iter__": [],
                          "store": None},
    ("talks", "Talk"): {"say": ["line"], "handing": None, "heard": None},
}

EVE = (("has", "eve", "ann"), ("in", "eve", "rome"))
PAIRS = (("?3", "eve"), ("?7", "eve"))
FOLDED = (("?3", "?3"), ("?7", "?3"))
LEAST = (("has", "?1", "ann"), ("in", "?1", "rome"))
ANN = (("emp", "ann", "rome"),)
KEYED = ((R,), (("in", (0,)),))
BAD = (("in", "a", "b"), ("in", "a", "c"))
QUESTION = (("A", "B"), (("has", "B", "A"),))
WEAK = ((("emp", "A", "B"),), (("in", "D", "B"),))
STRONG = ((("emp", "A", "B"),), (("in", "A", "B"),))
COPY = (((QUESTION[1], (("cop", "B"),)),), ())
TWO = (("emp", "ann", "rome"), ("zoo", "a"))
P = (("A",), (("has", "A", "B"), ("has", "A", "C"), ("in", "B", "D")))
Q = (("A",), (("has", "A", "B"),))
BOOK_TEXT = "emp A B : has C A , in C B\n! in 0\n"
CLASHING = ((((("q", "A", "B"),), (("v", "A", "B"),)),), (("v", (0,)),))
CLASHED = (("q", "a", "b"), ("q", "a", "c"))
# Each function with its arguments, what they are called, and what it returns for them.
CALLS = (
    (is_store, (S,), ("value",), True),
    (unknowns, (S,), ("store",), ("?3", "?7")),
    (renamed, (S, PAIRS), ("store", "pairs"), EVE),
    (plain, (S,), ("store",), (("has", "?1", "ann"), ("has", "?2", "ann"), ("in", "?1", "rome"))),
    (lead, (S, EVE), ("one", "other"), PAIRS),
    (is_lead, (S, EVE, PAIRS), ("one", "other", "value"), True),
    (same, (S, EVE), ("one", "other"), False),
    (folding, (S,), ("store",), FOLDED),
    (is_folding, (S, FOLDED), ("store", "value"), True),
    (core, (S,), ("store",), LEAST),
    (blocks, (S,), ("store",), (("?3",), ("?7",))),
    (is_book, (B,), ("value",), True),
    (is_rule, (R,), ("value",), True),
    (is_source, (B, ANN), ("book", "value"), True),
    (is_right, (B, ANN, S), ("book", "source", "store"), True),
    (broken, (B, ANN, ()), ("book", "source", "store"), ("rule", 0, (("A", "ann"), ("B", "rome")))),
    (broken, (KEYED, (), BAD), ("book", "source", "store"), ("key", 0, BAD[0], BAD[1])),
    (has_right, (B, ANN), ("book", "source"), True),
    (least, (B, ANN), ("book", "source"), LEAST),
    (answers, (QUESTION, EVE), ("question", "store"), (("ann", "eve"),)),
    (sure, (B, ANN, (("A",), QUESTION[1])), ("book", "source", "question"), (("ann",),)),
    (follows, (B, WEAK), ("book", "rule"), True),
    (same_on, (B, KEYED, ANN), ("one", "other", "source"), False),
    (parting, (B, KEYED), ("one", "other"), ()),
    (parting, (B, (B[0] + (WEAK,), ())), ("one", "other"), None),
    (parting, (B, (B[0] + (STRONG,), ())), ("one", "other"), (("emp", "aa", "ab"),)),
    (key_follows, (KEYED, ("in", (0, 1))), ("book", "key"), True),
    (shortest, (((WEAK,) + B[0], KEYED[1]),), ("book",), KEYED),
    (within, (P, Q), ("one", "other"), True),
    (within, (Q, P), ("one", "other"), False),
    (way, ((("A",), P[1][:1] + P[1][2:]), Q), ("one", "other"), (("A", "A"), ("B", "B"))),
    (way, (Q, P), ("one", "other"), None),
    (is_way, (P, Q, (("A", "A"), ("B", "C"))), ("one", "other", "value"), True),
    (telling, (P, Q), ("one", "other"), None),
    (telling, (((), (("in", "a"),)), ((), (("in", "b"),))), ("one", "other"), ((("in", "a"),), ())),
    (least_question, (P,), ("question",), (("A",), P[1][:1] + P[1][2:])),
    (beside, (S, EVE[:1]), ("one", "other"), (("has", "?1", "ann"), ("has", "eve", "ann"), ("in", "?1", "rome"))),
    (beside_all, ((S, EVE[:1], EVE),), ("stores",), EVE),
    (is_behind, (B, COPY), ("first", "second"), True),
    (is_behind, (COPY, B), ("first", "second"), False),
    (through, (B, COPY, ANN), ("first", "second", "source"), (("cop", "?1"),)),
    (has_through, (B, COPY, ANN), ("first", "second", "source"), True),
    (needless, (B, TWO), ("book", "source"), TWO[1:]),
    (fewest, (B, TWO), ("book", "source"), ANN),
    (news, (B, (), (("A",), QUESTION[1]), ANN[0]), ("book", "source", "question", "fact"), ((("ann",),), ())),
    (store_text, (S,), ("store",), "has ?3 ann\nhas ?7 ann\nin ?3 rome\n"),
    (read_store, ("has ?3 ann\nhas ?7 ann\nin ?3 rome\n",), ("text",), S),
    (book_text, (KEYED,), ("book",), BOOK_TEXT),
    (read_book, (BOOK_TEXT,), ("text",), KEYED),
)
# Calls that raise an error: each with its arguments, what they are called, the error and its fields.
FAULTS = (
    (least, (CLASHING, CLASHED), ("book", "source"), Clash, {}),
    (sure, (CLASHING, CLASHED, QUESTION), ("book", "source", "question"), Clash, {}),
    (through, (CLASHING, COPY, CLASHED), ("first", "second", "source"), Clash, {}),
    (news, (CLASHING, (), QUESTION, CLASHED[0]), ("book", "source", "question", "fact"), None, {}),
    (news, (CLASHING, CLASHED[1:], QUESTION, CLASHED[0]), ("book", "source", "question", "fact"), Clash, {}),
    (read_store, ("a b",), ("text",), BadText, {"line": 1, "word": 0}),
    (read_book, ("",), ("text",), BadText, {"line": 0, "word": 0}),
)


def package_files():
    """The names of the files of the package."""
    return sorted(name for name in os.listdir(PACKAGE) if name != "__pycache__")


def tree_of(name):
    """The parsed text of a file of the package."""
    with open(os.path.join(PACKAGE, name), encoding="ascii") as file:
        return ast.parse(file.read())


class InterfaceTest(unittest.TestCase):
    def test_functions_stand_in_their_files_with_their_arguments(self):
        for module, functions in FUNCTIONS.items():
            there = {node.name for node in tree_of(module + ".py").body if isinstance(node, ast.FunctionDef)}
            for name, arguments in functions.items():
                self.assertIn(name, there)
                function = getattr(importlib.import_module("corestore." + module), name)
                parameters = list(inspect.signature(function).parameters.values())
                self.assertEqual([parameter.name for parameter in parameters], arguments, name)
                for parameter in parameters:
                    self.assertIs(parameter.kind, inspect.Parameter.POSITIONAL_OR_KEYWORD)
                    self.assertIs(parameter.default, inspect.Parameter.empty)

    def test_classes_stand_in_their_files(self):
        for module, classes in CLASSES.items():
            there = {node.name for node in tree_of(module + ".py").body if isinstance(node, ast.ClassDef)}
            self.assertEqual(there, set(classes))
            for name, fields in classes.items():
                kind = getattr(importlib.import_module("corestore." + module), name)
                if fields:
                    self.assertEqual(list(inspect.signature(kind).parameters), fields)

    def test_methods_stand_in_their_classes_with_their_arguments(self):
        for (module, name), methods in METHODS.items():
            node = [node for node in tree_of(module + ".py").body if getattr(node, "name", None) == name][0]
            there = {part.name for part in node.body if isinstance(part, ast.FunctionDef)}
            kind = getattr(importlib.import_module("corestore." + module), name)
            for method, arguments in methods.items():
                self.assertIn(method, there)
                if arguments is None:
                    self.assertIsInstance(vars(kind)[method], property)
                else:
                    self.assertEqual(list(inspect.signature(vars(kind)[method]).parameters)[1:], arguments)
        source = inspect.signature(Handing).parameters["source"]
        self.assertIs(source.kind, inspect.Parameter.KEYWORD_ONLY)
        self.assertEqual(source.default, ())

    def test_the_package_is_one_folder_of_files(self):
        self.assertIn("__init__.py", package_files())
        for name in package_files():
            self.assertTrue(name.endswith(".py"), name)
            self.assertFalse(name.startswith("test"), name)

    def test_each_file_can_be_imported_by_itself(self):
        for name in package_files():
            command = [sys.executable, "-W", "error", "-c", "import corestore." + name[:-3]]
            done = subprocess.run(command, cwd=ROOT, capture_output=True, text=True)
            self.assertEqual((done.returncode, done.stdout, done.stderr), (0, "", ""), name)

    def test_sizes_and_characters_of_the_files(self):
        for name in package_files():
            with open(os.path.join(PACKAGE, name), encoding="ascii") as file:
                text = file.read()
            self.assertNotIn("\t", text)
            self.assertLess(len(text.split("\n")), 400)
            self.assertLessEqual(max(len(line) for line in text.split("\n")), 120)
            for node in ast.walk(ast.parse(text)):
                if isinstance(node, ast.FunctionDef):
                    self.assertLessEqual(node.end_lineno - node.lineno + 1, 40, node.name)

    def test_files_import_only_from_the_package(self):
        for name in package_files():
            for node in ast.walk(tree_of(name)):
                self.assertNotIsInstance(node, ast.Import)
                if isinstance(node, ast.ImportFrom):
                    self.assertEqual(node.module.split(".")[0], "corestore")


class GeneralTest(unittest.TestCase):
    def test_by_position_and_by_name_in_another_order(self):
        for function, arguments, names, answer in CALLS:
            self.assertEqual(function(*arguments), answer, function)
            by_name = dict(reversed(list(zip(names, arguments))))
            self.assertEqual(function(**by_name), answer, function)
            self.assertEqual(function(arguments[0], **dict(list(zip(names, arguments))[1:])), answer, function)

    def test_the_same_call_returns_the_same_answer(self):
        for function, arguments, _, answer in CALLS:
            for _ in range(3):
                self.assertEqual(function(*arguments), answer)

    def test_no_argument_is_changed(self):
        for function, arguments, _, _ in CALLS:
            before = copy.deepcopy(arguments)
            function(*arguments)
            self.assertEqual(arguments, before, function)

    def test_kinds_of_answers(self):
        for function, arguments, _, answer in CALLS:
            self.assertIs(type(function(*arguments)), type(answer), function)
        for result in (renamed(S, PAIRS), plain(S), lead(S, EVE), folding(S), core(S), blocks(S), least(B, ANN),
                       way(P, Q), telling(Q, P), least_question(P), beside(S, S), through(B, COPY, ANN),
                       fewest(B, TWO), news(B, (), (("A",), QUESTION[1]), ANN[0])):
            self.assertTrue(all(type(part) is tuple for part in result))
        self.assertIs(type(broken(B, ANN, ())[1]), int)

    def test_each_function_of_the_interface_is_called(self):
        called = {(function.__module__, function.__name__) for function, _, _, _ in CALLS}
        self.assertEqual(called, {("corestore." + module, name) for module in FUNCTIONS for name in FUNCTIONS[module]})

    def test_errors_by_position_and_by_name(self):
        for function, arguments, names, kind, fields in FAULTS:
            before = copy.deepcopy(arguments)
            by_name = dict(reversed(list(zip(names, arguments))))
            if kind is None:
                self.assertEqual(function(*arguments), function(**by_name))
                continue
            for call in (lambda: function(*arguments), lambda: function(**by_name), lambda: function(*arguments)):
                with self.assertRaises(kind) as caught:
                    call()
                self.assertIs(type(caught.exception), kind)
                self.assertEqual(vars(caught.exception), fields)
            self.assertEqual(arguments, before)

    def test_classes_by_position_and_by_name(self):
        self.assertEqual(Handing(B, source=ANN), Handing(source=ANN, book=B))
        self.assertEqual(Shape(S), Shape(store=S))
        one = Handing(B)
        self.assertIs(Talk(one).handing, Talk(handing=one).handing)

    def test_shapes_and_talks_change_no_argument(self):
        value = ["emp", ["ann"]]
        arguments = (S, EVE, Q, ANN, KEYED, value)
        before = copy.deepcopy(arguments)
        one, other = Shape(S), Shape(EVE)
        both = one | other
        self.assertEqual((both.leads(one), one.leads(both), both.answers(Q), value in both, both == value),
                         (False, True, (("eve",),), False, False))
        talk = Talk(Handing(KEYED, source=ANN))
        for line in (value, "put emp bob rome", "undo", "least", "ask A : has B A"):
            talk.say(line)
        self.assertEqual(arguments, before)
        self.assertEqual((one, other), (Shape(S), Shape(EVE)))

    def test_attributes_are_set_when_an_object_is_created(self):
        self.assertEqual((Handing(B).book, Handing(B).source, Shape(()).store), (B, (), ()))
        self.assertEqual((Talk(Handing(B)).handing, Talk(Handing(B)).heard), (Handing(B), ()))

    def test_results_are_passed_on(self):
        book, source = read_book(BOOK_TEXT), read_store("emp ann rome\n")
        made = least(book, source)
        self.assertEqual(read_store(store_text(made)), made)
        self.assertEqual(Shape(made) | Shape(beside(made, S)), Shape(beside_all((made, S, made))))
        talk = Talk(Handing(shortest(book), source=fewest(book, source)))
        self.assertEqual(talk.say("least"), "; ".join(" ".join(fact) for fact in Shape(made)))
        self.assertEqual(sure(book, source, least_question(P)), answers(least_question(P), made))

    def test_a_handing_changes_no_argument(self):
        arguments = (KEYED, ANN, QUESTION, ("emp", "bob", "rome"), ["emp"])
        before = copy.deepcopy(arguments)
        one = Handing(arguments[0], source=arguments[1])
        one.put(arguments[3])
        one.sure(QUESTION)
        one.take(arguments[3])
        for method in (one.put, one.take):
            with self.assertRaises(CoreError):
                method(arguments[4])
        one.undo()
        self.assertEqual(arguments, before)

    def test_a_later_change_to_an_argument_changes_no_other_answer(self):
        value = [("?3", "eve"), ("?7", "eve")]
        self.assertIs(is_lead(S, EVE, value), False)
        value.clear()
        self.assertIs(is_lead(S, EVE, value), False)
        self.assertIs(is_lead(S, EVE, PAIRS), True)
        self.assertIs(is_store(value), False)

    def test_answers_do_not_depend_on_how_python_hashes(self):
        program = (
            "from corestore.stores import *; from corestore.leads import *; from corestore.cores import *;"
            "from corestore.handing import *; from corestore.right import *; from corestore.books import *;"
            "s = tuple(sorted(('by', '?%d' % k, '?%d' % ((k * 7) % 5 + 1)) for k in range(1, 6)));"
            "print(unknowns(s), renamed(s, (('?1', 'a'), ('?2', '?1'))), plain(s), lead(s, s), same(s, plain(s)));"
            "print(folding(s + (('by', 'a', 'a'),)), core(s), blocks(s));"
            "b = (((('p', 'A'),), (('v', 'A', 'D'), ('v', 'E', 'A'))),), (('v', (0,)),);"
            "t = tuple(('p', c) for c in 'abc');"
            "print(least(b, t), broken(b, t, ()), is_source(b, t), is_book(b));"
            "from corestore.questions import *; from corestore.alls import *;"
            "print(answers((('A', 'B'), (('v', 'A', 'C'), ('v', 'D', 'B'))), least(b, t)));"
            "from corestore.asks import *; from corestore.sums import *; from corestore.changes import *;"
            "q = (('A',), (('v', 'A', 'B'), ('v', 'A', 'C'), ('v', 'C', 'C')));"
            "from corestore.shapes import *; from corestore.texts import *; from corestore.booktexts import *;"
            "print(list(Shape(s) | Shape(s[1:])), repr(store_text(s)), read_book(book_text(b)));"
            "print(way(q, q), telling(q[:1] + (q[1][:1],), q), least_question(q), beside(s, s[:2]), fewest(b, t));"
            "print(parting(b, ((((('p', 'A'), ('p', 'B')), (('v', 'A', 'B'),)),), b[1])), shortest((b[0] * 3, b[1])))")
        shown = set()
        for seed in ("0", "1", "2", "77"):
            done = subprocess.run([sys.executable, "-c", program], cwd=ROOT, capture_output=True, text=True,
                                  env=dict(os.environ, PYTHONHASHSEED=seed))
            self.assertEqual(done.stderr, "")
            shown.add(done.stdout)
        self.assertEqual(len(shown), 1)


if __name__ == "__main__":
    unittest.main()
