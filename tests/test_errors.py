"""Errors and names [1.1]."""

from sumsalone import errors
from sumsalone.base.words import is_name
from tests.kinds import EVERY, FORTY, Case

WITH_MESSAGE = ["InvalidSums", "InvalidTable", "InvalidWeb", "InvalidTournament", "InvalidFilling",
                "InvalidOperation", "InvalidCommand"]
WITH_VALUE = {"ParseError": "line", "UnknownName": "name", "InvalidNumber": "value", "NothingToUndo": "many",
              "Refused": "name", "TooMany": "limit"}
BASES = {"SumError": ValueError, "ParseError": errors.SumError, "UnknownName": KeyError, "InvalidNumber": IndexError,
         "NothingToUndo": LookupError, "Refused": ArithmeticError, "TooMany": OverflowError}


class Errors(Case):
    def test_direct_bases(self):
        for name, base in BASES.items():
            self.assertEqual(getattr(errors, name).__bases__, (base,))
        for name in WITH_MESSAGE:
            self.assertEqual(getattr(errors, name).__bases__, (errors.SumError,))

    def test_none_is_derived_from_another(self):
        names = WITH_MESSAGE + list(WITH_VALUE)
        for one in names:
            for other in names:
                if one != other:
                    self.assertFalse(issubclass(getattr(errors, one), getattr(errors, other)), (one, other))

    def test_last_five_are_no_sum_errors(self):
        for name in ("UnknownName", "InvalidNumber", "NothingToUndo", "Refused", "TooMany"):
            self.assertFalse(issubclass(getattr(errors, name), errors.SumError))

    def test_are_defined_in_their_file(self):
        for name in ["SumError"] + WITH_MESSAGE + list(WITH_VALUE):
            self.assertEqual(getattr(errors, name).__module__, "sumsalone.errors")

    def test_take_a_message(self):
        for name in ["SumError"] + WITH_MESSAGE:
            self.assertIsInstance(getattr(errors, name)("told"), ValueError)

    def test_keep_what_they_take(self):
        for name, attribute in WITH_VALUE.items():
            for value in (0, FORTY, True, None, "a", (1,), [1], {}):
                self.assertIs(getattr(getattr(errors, name)(value), attribute), value)


class Names(Case):
    def test_names(self):
        for value in ("a", "z", "abc", "abcdefgh", "zzzzzzzz", "made"):
            self.assertIs(is_name(value), True)

    def test_no_names(self):
        for value in ("", "abcdefghi", "A", "aB", "a1", "a b", "a\n", "\na", " a", "a_", "-", "`", "{", "a" * 100):
            self.assertIs(is_name(value), False)

    def test_every_kind(self):
        self.judges_every_kind(is_name)
        for value in EVERY:
            if not isinstance(value, str):
                self.assertIs(is_name(value), False)
