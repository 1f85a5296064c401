"""Worlds: what is one, and how it is written and read."""

import unittest
from itertools import product

from restwise.base.words import is_world, read_world, write_world
from restwise.errors import InvalidWorld, ParseError
from tests.values import every_kind


class Judged(unittest.TestCase):
    def test_worlds(self):
        for value in ((), (True,), (False,), (True, False, True), (True,) * 200, (False,) * 200):
            self.assertIs(is_world(value), True)

    def test_too_many_booleans(self):
        self.assertIs(is_world((True,) * 201), False)
        self.assertIs(is_world((False,) * 9000), False)

    def test_one_is_not_true(self):
        for value in ((1,), (0,), (True, 1), (0, False), (True,) * 199 + (1,)):
            self.assertIs(is_world(value), False)

    def test_other_kinds_are_none(self):
        for value in (None, True, 1, "1", "", [], [True], {}, {True: True}, (None,), ("1",), ((True,),), ([],)):
            self.assertIs(is_world(value), False)

    def test_each_value_gets_an_answer(self):
        for value in every_kind():
            self.assertIsInstance(is_world(value), bool)


class Written(unittest.TestCase):
    def test_some_worlds(self):
        self.assertEqual(write_world(()), "")
        self.assertEqual(write_world((True,)), "1")
        self.assertEqual(write_world((False, True, True)), "011")
        self.assertEqual(write_world((False,) * 200), "0" * 200)

    def test_what_is_no_world(self):
        for value in every_kind() + [(1,), (0,), [True], "10", None, (True,) * 201, (None,), {True: False}]:
            if not is_world(value):
                with self.assertRaises(InvalidWorld):
                    write_world(value)


class Read(unittest.TestCase):
    def test_some_texts(self):
        self.assertEqual(read_world(""), ())
        self.assertEqual(read_world("0"), (False,))
        self.assertEqual(read_world("110"), (True, True, False))
        self.assertEqual(read_world("1" * 200), (True,) * 200)
        for turn in read_world("10"):
            self.assertIsInstance(turn, bool)

    def test_back_and_forth(self):
        for size in range(8):
            for world in product((True, False), repeat=size):
                self.assertEqual(read_world(write_world(world)), world)
            for signs in product("01", repeat=size):
                self.assertEqual(write_world(read_world("".join(signs))), "".join(signs))

    def test_what_is_no_text_of_a_world(self):
        wrong = ["2", "1 0", " 1", "1 ", "1\n", "\n", "True", "o", "l", "-1", "1" * 201, "0" * 9000, "01x",
                 None, True, False, 1, 0, 10, (), (True,), ("1",), [], ["1", "0"], {}, {"1": "0"}]
        for text in wrong:
            with self.assertRaises(ParseError) as caught:
                read_world(text)
            self.assertIsNone(caught.exception.line)

    def test_each_value_is_read_or_refused(self):
        for value in every_kind():
            if isinstance(value, str) and len(value) <= 200 and set(value) <= {"0", "1"}:
                self.assertEqual(write_world(read_world(value)), value)
            else:
                with self.assertRaises(ParseError) as caught:
                    read_world(value)
                self.assertIsNone(caught.exception.line)


if __name__ == "__main__":
    unittest.main()
