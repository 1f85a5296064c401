"""`Program.from_lines`: lines that are read, and which error comes first."""

import unittest

from restwise.base.programs import Program
from restwise.errors import InvalidProgram, ParseError
from tests.making import EXAMPLES, random_programs
from tests.values import every_kind


class Read(unittest.TestCase):
    def test_lines_in_any_order(self):
        one = Program.from_lines("f: ask a", "main: call f", "g: step s")
        self.assertEqual(one, Program.from_lines("g: step s", "main: call f", "f: ask a"))
        self.assertEqual(one.lines, ("f: ask a", "g: step s", "main: call f"))

    def test_colons_and_blanks_of_handles(self):
        line = "main: handle a b: ask a done rest then step s rest"
        self.assertEqual(Program.from_lines(line).lines, (line,))

    def test_back_and_forth(self):
        for program in list(EXAMPLES.values()) + random_programs(3, 50, 20, labels=("a", "b", "c")):
            self.assertEqual(Program.from_lines(*program.lines[::-1]), program)

    def test_a_name_that_is_also_a_label_and_a_step(self):
        self.assertEqual(Program.from_lines("x: then ask x then step x call x").lines, ("x: then ask x then step x call x",))


class Refused(unittest.TestCase):
    def unread(self, index, *lines):
        with self.assertRaises(ParseError) as caught:
            Program.from_lines(*lines)
        self.assertEqual(caught.exception.line, index)

    def invalid(self, *lines):
        with self.assertRaises(InvalidProgram):
            Program.from_lines(*lines)

    def test_no_lines(self):
        self.invalid()

    def test_lines_that_are_none(self):
        for line in ("", "main", "main:", "main: ", "main:done", "main : done", " main: done", "main: done ", "main:  done",
                     "Main: done", "rest: done", "handle: done", ": done", "main: nothing", "main: then done",
                     "main: done done", "main: done\n", "main: handle b a: done done done done", "main: Done",
                     "main: step", "toolongname: done", "main: main: done", "main; done", "a b: done",
                     "main: " + "hold " * 40 + "done"):
            self.unread(0, line)
            self.unread(1, "f: done", line)
            self.unread(2, "f: done", "g: done", line, "also none")

    def test_wrong_kinds(self):
        for value in every_kind():
            self.unread(0, value)
            self.unread(1, "f: done", value)

    def test_a_line_that_is_none_behind_right_ones(self):
        self.unread(3, "f: done", "g: call f", "h: ask a", "h: ask")

    def test_a_name_twice(self):
        self.invalid("f: done", "f: done")
        self.invalid("f: done", "g: done", "f: step s")

    def test_texts_that_are_read_but_are_no_code(self):
        for text in ("hold rest", "then rest ask a", "handle a: rest done done", "handle a: ask b done then rest rest"):
            self.invalid(f"f: {text}")
            self.invalid("g: done", f"f: {text}")

    def test_programs_that_are_none(self):
        self.invalid("f: call g")
        self.invalid("f: rest")
        self.invalid("f: then ask a ask b", "g: then ask c ask d")
        self.invalid(*[f"{name}: done" for name in "abcdefg"])

    def test_what_is_no_line_comes_first(self):
        self.unread(1, "f: hold rest", "g: nothing")
        self.unread(2, "f: done", "f: done", "g")
        self.unread(1, "f: call g", "h: call")
        self.unread(7, *[f"{name}: done" for name in "abcdefg"], "none")
        self.unread(0, "none", "f: done", "f: done")
        self.unread(0, None, "none")


if __name__ == "__main__":
    unittest.main()
