import unittest

from corestore import errors
from corestore.errors import BadFact, BadSource, BadText, Clash, CoreError, NoFact, NothingDone
from helper import ODD_VALUES

WITHOUT = (Clash, BadSource, NothingDone)
WITH_VALUE = (BadFact, NoFact)
ALL = WITHOUT + WITH_VALUE + (BadText,)


def created(kind, value=("at", "ann")):
    """An error of the class, with the value as each of its fields."""
    if kind in WITHOUT:
        return kind()
    if kind in WITH_VALUE:
        return kind(value)
    return kind(value, value)


class ErrorsTest(unittest.TestCase):
    def test_core_error_stands_under_value_error(self):
        self.assertEqual(CoreError.__bases__, (ValueError,))

    def test_each_stands_directly_under_core_error(self):
        for kind in ALL:
            self.assertEqual(kind.__bases__, (CoreError,), kind)
            self.assertEqual(kind.__module__, "corestore.errors")
            self.assertIs(getattr(errors, kind.__name__), kind)

    def test_each_is_caught_by_its_name_and_by_no_other(self):
        for kind in ALL:
            error = created(kind)
            for other in (kind, CoreError, ValueError):
                with self.assertRaises(other):
                    raise error
            for other in ALL:
                self.assertEqual(isinstance(error, other), kind is other, (kind, other))

    def test_fields_hold_any_value(self):
        for value in ODD_VALUES + ([1, ("x", [None])],):
            for kind in WITH_VALUE:
                self.assertIs(kind(value).value, value)
                self.assertIs(kind(value=value).value, value)
            self.assertIs(BadText(value, 4).line, value)
            self.assertEqual(BadText(value, 4).word, 4)
            self.assertIs(BadText(4, value).word, value)
            self.assertEqual(BadText(4, value).line, 4)
            error = BadText(word=value, line=(value,))
            self.assertEqual((error.line, error.word), ((value,), value))

    def test_two_fields_do_not_get_mixed_up(self):
        error = BadText(3, 1)
        self.assertEqual((error.line, error.word), (3, 1))

    def test_each_takes_just_its_fields(self):
        for kind, many in [(BadFact, 1), (NoFact, 1), (BadText, 2)]:
            for other in set(range(4)) - {many}:
                with self.assertRaises(TypeError):
                    kind(*range(other))

    def test_an_error_can_be_shown(self):
        for kind in ALL + (CoreError,):
            error = created(kind) if kind is not CoreError else CoreError()
            self.assertIsInstance(str(error), str)
            self.assertIsInstance(repr(error), str)

    def test_two_errors_keep_their_own_fields(self):
        one, other = BadFact("x"), BadFact("y")
        self.assertEqual((one.value, other.value), ("x", "y"))


if __name__ == "__main__":
    unittest.main()
