"""The interface of the document: its names, its arguments, and its examples."""

import inspect
import unittest

from restwise import errors
from restwise.base import codes, words
from restwise.base.codes import Code, is_code, is_node
from restwise.base.words import is_integer, is_labels, is_name, is_world, read_world, write_world
from restwise.errors import InvalidCode, ParseError

FUNCTIONS = {
    is_integer: "(value)", is_name: "(value)", is_labels: "(value)", is_world: "(value)",
    write_world: "(world)", read_world: "(text)", is_node: "(value)", is_code: "(value)",
}
METHODS = {
    "leaf": "(word, *names)", "read": "(text)", "held": "(self)", "handled": "(self, last, clauses)",
    "children": "(self, index)", "part": "(self, index)", "clause": "(self, index, label)", "owner": "(self, index)",
    "with_part": "(self, index, other)", "renamed": "(self, *, labels, calls, steps)",
}
OPERATORS = ("__init__", "__add__", "__or__", "__getitem__", "__len__", "__iter__", "__contains__", "__eq__", "__str__")
PROPERTIES = ("nodes", "text", "labels", "calls", "steps", "loose")


class Listed(unittest.TestCase):
    def test_functions_and_their_modules(self):
        for function, arguments in FUNCTIONS.items():
            self.assertEqual(str(inspect.signature(function)), arguments)
            home = codes if function in (is_node, is_code) else words
            self.assertEqual(function.__module__, home.__name__)

    def test_methods_stand_in_the_class_itself(self):
        for name, arguments in METHODS.items():
            self.assertIn(name, vars(Code))
            self.assertEqual(str(inspect.signature(getattr(Code, name))), arguments, name)
        for name in (*OPERATORS, *PROPERTIES):
            self.assertIn(name, vars(Code))
        self.assertEqual(str(inspect.signature(Code)), "(nodes)")
        self.assertEqual(Code.__module__, "restwise.base.codes")

    def test_properties_are_there_on_each_object(self):
        for code in (Code.leaf("done"), Code.read("then rest done"), Code.leaf("done").held()):
            for name in PROPERTIES:
                self.assertTrue(hasattr(code, name), name)

    def test_arguments_of_errors(self):
        for name, argument in (("ParseError", "line"), ("UnknownName", "wanted"), ("UnknownPlace", "spot"),
                               ("NothingToUndo", "many"), ("TooMany", "limit"), ("Refused", "reason"),
                               ("InvalidNumber", "number")):
            self.assertEqual(str(inspect.signature(getattr(errors, name))), f"({argument})")


class Examples(unittest.TestCase):
    def test_words(self):
        told = [is_name("get"), is_name("rest"), is_labels(("get", "put")), is_labels(("put", "get")),
                write_world((True, False)), read_world("")]
        self.assertEqual(told, [True, False, True, False, "10", ()])

    def test_codes(self):
        rest, flip = Code.leaf("rest"), Code.leaf("ask", "or") + Code.leaf("step", "p")
        flip = flip.handled(Code.leaf("done"), {"or": rest + rest})
        told = [flip.text, flip.children(0), flip.clause(0, "or"), flip.owner(6), flip.part(5).loose, str(flip)]
        self.assertEqual(told, ["handle or: then ask or step p done then rest rest", (1, 4, 5), 5, 5, (1, 2),
                                "code of 8 nodes"])
        with self.assertRaises(ParseError):
            Code.read("handle b a: done done rest done")
        with self.assertRaises(InvalidCode):
            rest + Code.leaf("ask", "get")

    def test_the_text_of_2_2(self):
        text = "handle a b: ask a done rest then step s rest"
        self.assertEqual(Code.read(text).text, text)

    def test_codes_of_the_example_programs(self):
        for text in ("handle get: then ask get then step a then ask get step b done then step g rest",
                     "handle or: then call coin step p done then rest rest", "handle b: call in done then rest call loop",
                     "handle b: hold ask b done then ask a rest", "handle a: call mid done done"):
            self.assertEqual(Code.read(text).text, text)


if __name__ == "__main__":
    unittest.main()
