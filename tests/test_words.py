"""[0.1], [0.7], [0.8]: integers, names and labels, and the constants of `words`."""

import unittest

from restwise.base import words
from restwise.base.words import is_ascending, is_integer, is_labels, is_name
from tests.values import every_kind

KEYWORDS = ("ask", "call", "done", "handle", "hold", "rest", "step", "test", "then")
LETTERS = "abcdefghijklmnopqrstuvwxyz"


class Constants(unittest.TestCase):
    def test_the_four_constants(self):
        self.assertEqual(words.MAX_LETTERS, 8)
        self.assertEqual(words.MAX_LABELS, 3)
        self.assertEqual(words.MAX_WORLD, 200)
        self.assertEqual(words.KEYWORDS, KEYWORDS)


class Integers(unittest.TestCase):
    def test_sixty_digits_and_sixty_one(self):
        for value in (0, 1, -1, 7, 10 ** 59, 10 ** 60 - 1, -(10 ** 59), 1 - 10 ** 60):
            self.assertIs(is_integer(value), True)
        for value in (10 ** 60, -(10 ** 60), 10 ** 60 + 1, 10 ** 99, -(10 ** 99)):
            self.assertIs(is_integer(value), False)

    def test_booleans_are_none(self):
        self.assertIs(is_integer(True), False)
        self.assertIs(is_integer(False), False)

    def test_other_kinds_are_none(self):
        for value in (None, "1", "", (), (1,), [1], {}, {1: 1}):
            self.assertIs(is_integer(value), False)


class Names(unittest.TestCase):
    def test_one_to_eight_letters(self):
        for value in [*LETTERS, "get", "or", "abcdefgh", "zzzzzzzz", "az"]:
            self.assertIs(is_name(value), True, value)

    def test_empty_and_nine_letters(self):
        for value in ("", "abcdefghi", "x" * 9000):
            self.assertIs(is_name(value), False)

    def test_no_keyword_is_a_name(self):
        for value in KEYWORDS:
            self.assertIs(is_name(value), False, value)

    def test_words_around_a_keyword_are_names(self):
        for value in ("asks", "as", "dones", "resta", "re", "thent", "handles", "xthen"):
            self.assertIs(is_name(value), True, value)

    def test_each_other_sign_is_none(self):
        for number in range(128):
            self.assertIs(is_name(chr(number)), chr(number) in LETTERS)
            for value in ("a" + chr(number), chr(number) + "a", "a" + chr(number) + "b"):
                self.assertIs(is_name(value), chr(number) in LETTERS, repr(value))

    def test_upper_case_letters_digits_and_blanks(self):
        for value in ("Get", "GET", "geT", "get1", "1", "a b", " a", "a ", "a\n", "\n", "a_b", "a-b", "\u00e4", "\u0430"):
            self.assertIs(is_name(value), False, value)

    def test_other_kinds_are_none(self):
        for value in (None, True, 1, ("a",), ["a"], {"a": "a"}, (), [], b"a"):
            self.assertIs(is_name(value), False)


class Labels(unittest.TestCase):
    def test_none_to_three_ascending_names(self):
        for value in ((), ("a",), ("a", "b"), ("a", "b", "c"), ("a", "aa", "b"), ("get", "put")):
            self.assertIs(is_labels(value), True, value)

    def test_four_are_too_many(self):
        self.assertIs(is_labels(("a", "b", "c", "d")), False)
        self.assertIs(is_labels(("a",) * 9000), False)

    def test_ascending_is_strict(self):
        for value in (("a", "a"), ("b", "a"), ("a", "c", "b"), ("a", "b", "b"), ("b", "a", "c"), ("put", "get")):
            self.assertIs(is_labels(value), False, value)

    def test_names_only(self):
        for value in (("rest",), ("a", "then"), ("",), ("A", "b"), ("a", 1), (1, 2), (None,), (("a",),), (True, False)):
            self.assertIs(is_labels(value), False, value)

    def test_tuples_only(self):
        for value in ("a", "ab", ["a"], ["a", "b"], {"a": "b"}, [], {}, "", None):
            self.assertIs(is_labels(value), False, value)


class Answers(unittest.TestCase):
    def test_each_value_gets_an_answer(self):
        for value in every_kind():
            for judge in (is_integer, is_name, is_labels):
                self.assertIn(judge(value), (True, False))
                self.assertIsInstance(judge(value), bool)

    def test_ascending_items(self):
        for items in ((), (1,), (1, 2, 5), ("a", "b")):
            self.assertIs(is_ascending(items), True)
        for items in ((1, 1), (2, 1), (1, 3, 2), ("a", "a")):
            self.assertIs(is_ascending(items), False)


if __name__ == "__main__":
    unittest.main()
