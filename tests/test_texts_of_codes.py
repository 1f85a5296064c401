"""[2.2]: the text of a code, and `Code.read`."""

import unittest

from restwise.base.codes import Code, is_code
from restwise.errors import InvalidCode, ParseError
from tests import oracle
from tests.values import every_kind


class Written(unittest.TestCase):
    def test_each_form(self):
        for nodes, text in (
            ((("done",),), "done"),
            ((("step", "s"),), "step s"),
            ((("ask", "get"),), "ask get"),
            ((("call", "f"),), "call f"),
            ((("rest",),), "rest"),
            ((("then",), ("done",), ("step", "p")), "then done step p"),
            ((("test",), ("rest",), ("done",)), "test rest done"),
            ((("hold",), ("done",)), "hold done"),
            ((("handle", "a", "b"), ("ask", "a"), ("done",), ("rest",), ("then",), ("step", "s"), ("rest",)),
             "handle a b: ask a done rest then step s rest"),
        ):
            self.assertEqual(Code(nodes).text, text)
            self.assertEqual(Code.read(text).nodes, nodes)

    def test_back_and_forth_with_all_small_codes(self):
        leaves = (("ask", "a"), ("rest",), ("done",), ("call", "f"), ("step", "p"))
        inner = (("then",), ("test",), ("hold",), ("handle", "a"), ("handle", "a", "b"))
        texts = set()
        for size in range(1, 6):
            for nodes in oracle.trees(size, leaves, inner):
                if is_code(nodes):
                    code = Code(nodes)
                    self.assertEqual(Code.read(code.text), code)
                    texts.add(code.text)
                else:
                    with self.assertRaises(InvalidCode):
                        Code(nodes)
        self.assertGreater(len(texts), 300)

    def test_forty_nodes(self):
        text = "hold " * 39 + "done"
        self.assertEqual(Code.read(text).text, text)
        text = "then step abcdefgh " * 19 + "hold step abcdefgh"
        self.assertEqual(len(Code.read(text)), 40)
        self.assertEqual(Code.read(text).text, text)


class Refused(unittest.TestCase):
    def unread(self, *texts):
        for text in texts:
            with self.assertRaises(ParseError, msg=text) as caught:
                Code.read(text)
            self.assertIsNone(caught.exception.line)

    def test_other_blanks(self):
        self.unread("", " ", " done", "done ", "then  done done", "then done\ndone", "done\n", "\ndone", "step\ts",
                    "handle a : done done done", "handle a  b: done done done done", "handle a:  done done done")

    def test_a_colon_too_much_or_too_little(self):
        self.unread("handle a done done done", "handle a:: done done done", "handle a: b: done done done done",
                    "handle: a done done done", "handle : done done done", "handle: done done done", "done:", "step s:",
                    "then: done done", "ask a:", "handle a:done done done", ":", "handle a:", "handle", "handle a",
                    "handle a b c", "handle a: b done done done", ": done", "handle a b c d: done done done done done done")

    def test_nodes_too_many_or_too_few(self):
        self.unread("then", "then done", "then done done done", "done done", "hold", "handle a: done done",
                    "handle a: done done done done", "handle a b: done done done", "test", "hold done done", "rest rest")

    def test_more_than_forty_nodes(self):
        self.unread("hold " * 40 + "done", "then done " * 20 + "done", "hold " * 1799 + "done", "done " * 1799 + "done",
                    "handle a: " * 900 + "done")

    def test_words_that_are_no_nodes(self):
        self.unread("get", "Done", "DONE", "if a", "step", "ask", "call", "step done", "ask rest", "call S", "step a1",
                    "step abcdefghi", "step a b", "done a", "step  a", "x" * 9000, "hold get", "then step done done")

    def test_labels_that_are_none(self):
        self.unread("handle b a: done done rest done", "handle a a: done done done done", "handle rest: done done done",
                    "handle a B: done done done done", "handle a b c d: done done done done done done",
                    "handle a c b: done done done done done")

    def test_each_value_is_read_or_refused(self):
        for value in every_kind():
            if isinstance(value, str) and value in ("done", "rest", "then done done", "handle get: done done rest"):
                self.assertEqual(Code.read(value).text, value)
            else:
                self.unread(value)

    def test_texts_that_are_read_but_are_no_code(self):
        for text in ("hold rest", "then rest ask a", "handle a: rest done done", "handle a: done done then rest ask b",
                     "handle a: ask b done then rest rest", "handle a: done done hold rest", "hold " * 39 + "rest"):
            with self.assertRaises(InvalidCode):
                Code.read(text)

    def test_a_text_that_is_not_read_is_so_first(self):
        self.unread("hold rest rest", "hold rest ", "then rest ask A", "hold " * 40 + "rest")


if __name__ == "__main__":
    unittest.main()
