"""[1.1] and [1.2]: what each error is derived from, and what it keeps."""

import unittest

from restwise import errors
from tests.values import every_kind

ELEVEN = ("InvalidWord", "InvalidCode", "InvalidProgram", "InvalidWorld", "InvalidFact", "InvalidTable",
          "InvalidLines", "InvalidContext", "InvalidMarking", "InvalidOperation", "ParseError")
KEEPING = {
    "UnknownName": (KeyError, "wanted"),
    "UnknownPlace": (LookupError, "spot"),
    "NothingToUndo": (IndexError, "many"),
    "TooMany": (OverflowError, "limit"),
    "Refused": (ArithmeticError, "reason"),
    "InvalidNumber": (RuntimeError, "number"),
}


class Bases(unittest.TestCase):
    def test_rest_error_is_directly_a_value_error(self):
        self.assertEqual(errors.RestError.__bases__, (ValueError,))

    def test_each_of_the_eleven_is_directly_a_rest_error(self):
        for name in ELEVEN:
            self.assertEqual(getattr(errors, name).__bases__, (errors.RestError,), name)

    def test_the_eleven_are_not_derived_from_one_another(self):
        for one in ELEVEN:
            for other in ELEVEN:
                derived = issubclass(getattr(errors, one), getattr(errors, other))
                self.assertEqual(derived, one == other, (one, other))

    def test_each_of_the_six_is_directly_derived_from_its_base(self):
        for name, (base, _) in KEEPING.items():
            self.assertEqual(getattr(errors, name).__bases__, (base,), name)
            self.assertFalse(issubclass(getattr(errors, name), errors.RestError), name)

    def test_each_is_defined_in_this_module(self):
        for name in ("RestError", *ELEVEN, *KEEPING):
            self.assertEqual(getattr(errors, name).__module__, "restwise.errors")


class Kept(unittest.TestCase):
    def test_parse_error_keeps_its_line(self):
        for value in every_kind():
            self.assertIs(errors.ParseError(value).line, value)

    def test_the_six_keep_their_argument(self):
        for name, (_, attribute) in KEEPING.items():
            for value in every_kind():
                kept = getattr(errors, name)(value)
                self.assertIs(getattr(kept, attribute), value)
                self.assertIsInstance(str(kept), str)
                self.assertEqual(list(vars(kept)), [attribute])

    def test_each_object_keeps_its_own(self):
        one, other = errors.TooMany(200), errors.TooMany(4000)
        self.assertEqual([one.limit, other.limit], [200, 4000])

    def test_the_argument_can_be_given_by_its_name(self):
        self.assertEqual(errors.ParseError(line=3).line, 3)
        self.assertEqual(errors.UnknownName(wanted="f").wanted, "f")

    def test_the_others_take_a_message(self):
        for name in ("RestError", *ELEVEN[:-1]):
            self.assertEqual(str(getattr(errors, name)("some words")), "some words")

    def test_errors_are_caught_by_their_bases(self):
        for name, (base, attribute) in KEEPING.items():
            with self.assertRaises(base) as caught:
                raise getattr(errors, name)(7)
            self.assertEqual(getattr(caught.exception, attribute), 7)
        with self.assertRaises(ValueError) as caught:
            raise errors.ParseError(4)
        self.assertEqual(caught.exception.line, 4)


if __name__ == "__main__":
    unittest.main()
