"""How codes are made: `Code`, `leaf`, `+`, `|`, `held`, `handled`, `renamed`."""

import unittest

from restwise.base.codes import Code, is_code
from restwise.errors import InvalidCode, InvalidOperation
from tests.values import every_kind

DONE, REST, ASK, STEP = Code.leaf("done"), Code.leaf("rest"), Code.leaf("ask", "a"), Code.leaf("step", "s")
LONG = Code.read("hold " * 38 + "done")


class Made(unittest.TestCase):
    def test_code_of_nodes(self):
        nodes = (("then",), ("done",), ("rest",))
        self.assertEqual(Code(nodes).nodes, nodes)
        for value in every_kind():
            if value not in [(("done",),), (("rest",),)]:
                self.assertIs(is_code(value), False)
                with self.assertRaises(InvalidCode):
                    Code(value)

    def test_leaves(self):
        for items in (("done",), ("rest",), ("step", "s"), ("ask", "a"), ("call", "f")):
            self.assertEqual(Code.leaf(*items).nodes, (items,))

    def test_what_is_no_leaf(self):
        for items in (("then",), ("test",), ("hold",), ("handle", "a"), ("handle",), ("done", "a"), ("step",), ("ask",),
                      ("call", "f", "g"), ("step", "rest"), ("step", "A"), ("get",), ("",), (("done",),), (["done"],),
                      ("ask", ["a"]), ("ask", None), (DONE,)):
            with self.assertRaises(InvalidCode, msg=items):
                Code.leaf(*items)

    def test_wrong_words_and_names_of_leaves(self):
        for value in every_kind():
            if value not in ["done", "rest"]:
                with self.assertRaises(InvalidCode):
                    Code.leaf(value)
            if value not in ["get", "or"]:
                with self.assertRaises(InvalidCode):
                    Code.leaf("step", value)

    def test_then(self):
        self.assertEqual((ASK + STEP).nodes, (("then",), ("ask", "a"), ("step", "s")))
        self.assertEqual((ASK + STEP + REST).text, "then then ask a step s rest")
        self.assertEqual((REST + REST).loose, (1, 2))

    def test_test(self):
        self.assertEqual((REST | ASK).nodes, (("test",), ("rest",), ("ask", "a")))
        self.assertEqual((REST | ASK).loose, (1,))

    def test_hold(self):
        self.assertEqual((ASK + STEP).held().text, "hold then ask a step s")
        with self.assertRaises(InvalidCode):
            REST.held()
        with self.assertRaises(InvalidCode):
            (DONE | REST).held()

    def test_loose_rests_ahead_of_free_asks(self):
        for one, other in ((REST, ASK), (STEP + REST, ASK), (REST, STEP | ASK), (REST | ASK, ASK.held())):
            with self.assertRaises(InvalidCode):
                one + other
            self.assertEqual(len(one | other), len(one) + len(other) + 1)
        answered = ASK.handled(DONE, {"a": DONE})
        self.assertEqual((REST + answered).text, "then rest handle a: ask a done done")

    def test_forty_nodes_and_forty_one(self):
        self.assertEqual(len(LONG.held()), 40)
        self.assertEqual(len(LONG.part(1) + DONE), 40)
        self.assertEqual(len(LONG.part(1) | DONE), 40)
        self.assertEqual(len(LONG.part(2).handled(DONE, {"a": REST})), 40)
        for make in (LONG.held().held, lambda: LONG + DONE, lambda: LONG | DONE, lambda: LONG + LONG,
                     lambda: LONG.part(1).handled(DONE, {"a": REST})):
            with self.assertRaises(InvalidCode):
                make()

    def test_operands_that_are_no_code(self):
        for value in every_kind() + [(("done",),), "done"]:
            if not isinstance(value, Code):
                for make in (lambda: REST + value, lambda: REST | value, lambda: LONG.held() + value):
                    with self.assertRaises(InvalidOperation):
                        make()


class Handled(unittest.TestCase):
    def test_one_to_three_clauses_in_the_order_of_their_labels(self):
        self.assertEqual(ASK.handled(STEP, {"a": REST}).text, "handle a: ask a step s rest")
        made = ASK.handled(DONE, {"c": STEP, "a": REST, "b": REST + STEP})
        self.assertEqual(made.text, "handle a b c: ask a done rest then rest step s step s")
        self.assertEqual(made, ASK.handled(DONE, {"a": REST, "b": REST + STEP, "c": STEP}))

    def test_loose_rests_become_those_of_the_clause(self):
        made = ASK.handled(DONE, {"a": REST + REST, "b": DONE | REST})
        self.assertEqual((made.loose, [made.owner(index) for index in (4, 5, 8)]), ((), [3, 3, 6]))

    def test_what_is_no_code(self):
        for make in (lambda: REST.handled(DONE, {"a": REST}), lambda: ASK.handled(REST, {"a": REST}),
                     lambda: ASK.handled(DONE, {"b": REST + REST}), lambda: DONE.handled(ASK, {"a": REST + REST}),
                     lambda: DONE.handled(DONE, {"a": REST + REST, "b": ASK})):
            with self.assertRaises(InvalidCode):
                make()
        self.assertEqual(ASK.handled(DONE, {"a": REST + REST}).loose, ())

    def test_wrong_last_parts(self):
        for value in every_kind() + [None, (("done",),), "done"]:
            if not isinstance(value, Code):
                with self.assertRaises(InvalidOperation):
                    ASK.handled(value, {"a": REST})
                with self.assertRaises(InvalidOperation):
                    REST.handled(value, {"a": REST})

    def test_wrong_clauses(self):
        wrong = [{}, {"a": DONE, "b": DONE, "c": DONE, "d": DONE}, {"rest": DONE}, {"A": DONE}, {"": DONE}, {1: DONE},
                 {None: DONE}, {("a",): DONE}, {"a": None}, {"a": "done"}, {"a": (("done",),)}, {"a": DONE, "b": 1},
                 {"a": DONE, 1: DONE}, [("a", DONE)], (("a", DONE),), "a", {"a": {"a": DONE}}]
        for value in wrong + [value for value in every_kind() if not isinstance(value, dict)]:
            for work in (ASK, REST, LONG):
                with self.assertRaises(InvalidOperation):
                    work.handled(DONE, value)
        for value in every_kind():
            if not isinstance(value, dict) or list(value) != ["get"] or not isinstance(value["get"], Code):
                with self.assertRaises(InvalidOperation):
                    ASK.handled(DONE, value)


class Renamed(unittest.TestCase):
    CODE = Code.read("handle a b: then ask a then call f ask c then call g step s rest handle a: step t done hold done")

    def renamed(self, labels, calls=None, steps=None):
        return self.CODE.renamed(labels=labels, calls={"f": "f", "g": "g"} if calls is None else calls,
                                 steps={"s": "s", "t": "t"} if steps is None else steps)

    def test_the_same_names(self):
        self.assertEqual(self.renamed({"a": "a", "b": "b", "c": "c"}), self.CODE)
        self.assertEqual(REST.renamed(labels={}, calls={}, steps={}), REST)

    def test_other_names(self):
        made = self.renamed({"a": "x", "b": "y", "c": "a"}, {"f": "h", "g": "a"}, {"s": "p", "t": "q"})
        self.assertEqual(made.text, "handle x y: then ask x then call h ask a then call a step p rest "
                                    "handle x: step q done hold done")

    def test_clauses_in_the_order_of_their_new_labels(self):
        made = self.renamed({"a": "b", "b": "a", "c": "c"})
        self.assertEqual(made.text, "handle a b: then ask b then call f ask c then call g step s "
                                    "handle b: step t done hold done rest")
        self.assertEqual(made.part(made.clause(0, "a")).text, "handle b: step t done hold done")
        three = Code.read("handle a b c: done done then rest step p rest ask a")
        made = three.renamed(labels={"a": "z", "b": "m", "c": "d"}, calls={}, steps={"p": "p"})
        self.assertEqual(made.text, "handle d m z: done done ask z rest then rest step p")
        self.assertEqual((made.owner(4), made.owner(6)), (4, 5))

    def test_clauses_in_clauses(self):
        code = Code.read("handle a b: ask b done handle a b: done done step p rest rest")
        made = code.renamed(labels={"a": "y", "b": "x"}, calls={}, steps={"p": "q"})
        self.assertEqual(made.text, "handle x y: ask x done rest handle x y: done done rest step q")

    def test_equal_names_for_calls_and_for_steps(self):
        made = self.renamed({"a": "a", "b": "b", "c": "c"}, {"f": "h", "g": "h"}, {"s": "h", "t": "h"})
        self.assertEqual((made.calls, made.steps), (("h",), ("h",)))

    def test_equal_labels_are_refused(self):
        for labels in ({"a": "x", "b": "x", "c": "y"}, {"a": "b", "b": "b", "c": "c"}, {"a": "x", "b": "x", "c": "x"}):
            with self.assertRaises(InvalidOperation):
                self.renamed(labels)

    def test_names_too_many_or_too_few(self):
        right = {"a": "a", "b": "b", "c": "c"}
        for labels in ({}, {"a": "a", "b": "b"}, {"a": "a", "b": "b", "c": "c", "d": "d"}, {"a": "a", "b": "b", "d": "c"}):
            with self.assertRaises(InvalidOperation):
                self.renamed(labels)
        for calls in ({}, {"f": "f"}, {"f": "f", "g": "g", "h": "h"}, {"f": "f", "s": "g"}):
            with self.assertRaises(InvalidOperation):
                self.renamed(right, calls)
        for steps in ({}, {"s": "s"}, {"s": "s", "t": "t", "u": "u"}, {"s": "s", "f": "t"}):
            with self.assertRaises(InvalidOperation):
                self.renamed(right, None, steps)

    def test_what_are_no_names(self):
        for value in every_kind() + ["rest", "A", ""]:
            if not isinstance(value, str) or value not in ("get", "or"):
                for make in (lambda: self.renamed({"a": value, "b": "b", "c": "c"}),
                             lambda: self.renamed({"a": "a", "b": "b", "c": "c"}, {"f": value, "g": "g"}),
                             lambda: self.renamed({"a": "a", "b": "b", "c": "c"}, None, {"s": "s", "t": value})):
                    with self.assertRaises(InvalidOperation):
                        make()

    def test_what_are_no_dicts(self):
        right = {"labels": {"get": "get"}, "calls": {"f": "f"}, "steps": {"s": "s"}}
        code = Code.read("then ask get then call f step s")
        self.assertEqual(code.renamed(**right), code)
        for value in every_kind():
            for name in right:
                if value != {"get": "put"} or name != "labels":
                    with self.assertRaises(InvalidOperation):
                        code.renamed(**{**right, name: value})

    def test_arguments_are_keywords(self):
        with self.assertRaises(TypeError):
            DONE.renamed({}, {}, {})


if __name__ == "__main__":
    unittest.main()
