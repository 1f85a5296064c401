"""[0.2], [0.4]: which error comes first, and that no call changes anything."""

import unittest

from restwise.base.codes import Code
from restwise.errors import InvalidCode, InvalidNumber, InvalidOperation, UnknownName
from tests.values import every_kind, frozen

DONE, REST, ASK, STEP = Code.leaf("done"), Code.leaf("rest"), Code.leaf("ask", "a"), Code.leaf("step", "s")
FULL = Code.read("hold " * 39 + "done")


class Order(unittest.TestCase):
    def test_an_index_comes_ahead_of_a_label(self):
        for label in every_kind():
            with self.assertRaises(InvalidNumber) as caught:
                ASK.clause(5, label)
            self.assertEqual(caught.exception.number, 5)
            with self.assertRaises(UnknownName) as caught:
                ASK.clause(0, label)
            self.assertIs(caught.exception.wanted, label)

    def test_an_index_comes_ahead_of_a_code(self):
        for other in every_kind():
            with self.assertRaises(InvalidNumber) as caught:
                ASK.with_part(-1, other)
            self.assertEqual(caught.exception.number, -1)

    def test_no_code_is_the_last_error(self):
        for make in (lambda: FULL + None, lambda: FULL | None, lambda: REST.handled(None, {"a": DONE}),
                     lambda: REST.handled(DONE, {}), lambda: REST.handled(REST, None), lambda: FULL.with_part(0, None)):
            with self.assertRaises(InvalidOperation):
                make()
        for make in (lambda: FULL + FULL, lambda: FULL | FULL, lambda: REST.handled(REST, {"a": FULL}),
                     lambda: FULL.with_part(1, FULL), lambda: FULL.with_part(39, REST)):
            with self.assertRaises(InvalidCode):
                make()


class Unchanged(unittest.TestCase):
    def test_dicts_that_were_passed(self):
        clauses, labels = {"b": REST, "a": STEP}, {"b": "x", "a": "y"}
        before = frozen(clauses), frozen(labels)
        made = ASK.handled(DONE, clauses)
        changed = made.renamed(labels=labels, calls={}, steps={"s": "s"})
        self.assertEqual((frozen(clauses), frozen(labels)), before)
        clauses["a"], clauses["c"], labels["a"] = DONE, DONE, "q"
        clauses.pop("b")
        self.assertEqual(made.text, "handle a b: ask a done step s rest")
        self.assertEqual(changed.text, "handle x y: ask y done rest step s")

    def test_what_is_handed_out_cannot_be_changed(self):
        code = Code.read("handle a b: ask a done then rest step s rest")
        for told in (code.nodes, code.labels, code.calls, code.steps, code.loose, code.children(0), *code):
            self.assertIsInstance(told, tuple)

    def test_no_call_changes_a_code(self):
        code = Code.read("handle a b: ask a done then rest step s rest")
        before = frozen(code)
        for call in (lambda: code + REST, lambda: code | REST, code.held, lambda: code.handled(DONE, {"a": DONE}),
                     lambda: code.part(3), lambda: code.with_part(1, DONE), lambda: list(code), lambda: code.children(0),
                     lambda: code.renamed(labels={"a": "b", "b": "a"}, calls={}, steps={"s": "t"})):
            self.assertEqual(frozen(call()), frozen(call()))
            self.assertEqual(frozen(code), before)
        one = code
        one += STEP
        one |= STEP
        self.assertEqual(frozen(code), before)
        self.assertEqual(one.text, f"test then {code.text} step s step s")

    def test_wrong_arguments_stay_as_they_are(self):
        for value in every_kind():
            before = frozen(value)
            for call in (Code, Code.read, Code.leaf, ASK.part, lambda item: ASK + item,
                         lambda item: ASK.handled(DONE, item)):
                try:
                    call(value)
                except (ValueError, RuntimeError):
                    pass
            self.assertEqual(frozen(value), before)

    def test_the_properties_cannot_be_set(self):
        for name in ("nodes", "text", "labels", "calls", "steps", "loose"):
            with self.assertRaises(AttributeError):
                setattr(ASK, name, ())


if __name__ == "__main__":
    unittest.main()
